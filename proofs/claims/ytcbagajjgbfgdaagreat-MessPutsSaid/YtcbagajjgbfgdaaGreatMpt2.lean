/- Put together: PexBMpq, AppMpq, PexCMpq, PexDMpq, ObjMpq, OpsAMpq, OpsBMpq, OpsCMpq, ObjBMpq, PexEMpq, ConfWMpq, OpenMpq, StrsMpq, EntBMpq, MapMpq, MapCMpq, ItemAMpq, PexS0Mpq, PexSMpq. Conditions: as each says. -/
import Derived.Test.YtcbagajjgbfgdaaGreatMpt1
import Derived.Deep.AppendLies
import Derived.Deep.RegionLaw
import Derived.PlainAid
import Derived.Laws.StructEq
import Derived.ProofKit
import Derived.Deep.Slices
import Derived.Deep.Fields
import Derived.SliceStrings
import Derived.SizedLaws
import Derived.StringKeys
import Derived.Maps.RangeRun
import Derived.Laws.RangeString
import Derived.Laws.Strings
import Derived.MapKept
/- Steps of a walk over known slots: blocks of the call's own, rows that grow, slices that came in. Conditions: none. -/
namespace Go.Proofs.YtcbagajjgbfgdaaGreat
open Go.RowKit

/-- Block N of world w holds just these cells, and may be written. -/
def Blk (w : World) (N : Nat) (T : TypeId) (cs : Array Value) : Prop := w.heap[N]? = some (.cells cs T (0, 0))
section
variable {P : Program} {n : Nat} {m : List (Nat × Value)} {w x : World} {o : Oper} {N : Nat} {T : TypeId} {cs : Array Value}
theorem Blk.lt (h : Blk w N T cs) : N < w.heap.size := (Array.getElem?_eq_some_iff.1 h).1
theorem Blk.cell (h : Blk w N T cs) {k : Nat} {v : Value} (hk : cs[k]? = some v) : w.cell? ⟨N, k, none⟩ = some v := by
  unfold World.cell?; rw [show w.heap[N]? = _ from h]; simpa using hk
theorem Blk.frozen (h : Blk w N T cs) (k : Nat) : w.frozen? ⟨N, k, none⟩ = false := by
  unfold World.frozen?; rw [show w.heap[N]? = _ from h]; simp
theorem Blk.range (h : Blk w N T cs) (k : Nat) (l : List Value) (hl : ∀ j v, l[j]? = some v → cs[k + j]? = some v) : w.rangeAt N k l := fun j v hv => h.cell (hl j v hv)
theorem Blk.all (h : Blk w N T cs) : w.rangeAt N 0 cs.toList := fun j v hv => h.cell (by simpa using hv)
theorem Blk.kept {row : Option Nat} (h : Blk w N T cs) (hg : w.grownBy x row) (hne : row ≠ some N) : Blk x N T cs := by
  unfold Blk at *; rw [hg.block N (Array.getElem?_eq_some_iff.1 h).1 (fun e => hne e.symm)]; exact h
theorem Blk.below (h : Blk w N T cs) (hb : Below w.heap.size w x) : Blk x N T cs := by
  unfold Blk at *; rw [hb.block N (Array.getElem?_eq_some_iff.1 h).1]; exact h
theorem grown_below (hg : w.grownBy x none) : Below w.heap.size w x := ⟨hg.os, hg.tape, hg.output, hg.size, fun k hk => hg.block k hk (by simp)⟩
theorem below_grown (hb : Below w.heap.size w x) : w.grownBy x none := ⟨hb.os, hb.tape, hb.output, hb.size, fun k hk _ => hb.block k hk⟩
theorem hb_new {w0 : World} (h : Below w0.heap.size w0 w) (hg : w.grownBy x none) : Below w0.heap.size w0 x := h.grown hg h.size (fun _ e => by cases e)
theorem hb_at {w0 : World} (h : Below w0.heap.size w0 w) (hg : w.grownBy x (some N)) (hN : w0.heap.size ≤ N) : Below w0.heap.size w0 x := h.grown hg h.size (fun k e => by cases e; exact hN)
theorem hb_call {w0 : World} (h : Below w0.heap.size w0 w) (hb : Below w.heap.size w x) : Below w0.heap.size w0 x := h.trans (hb.mono h.size)
theorem hb_row {w0 : World} {B : Nat} {e : TypeId} {sz k : Nat} {v : Value} {xs : List Value} (h : Below w0.heap.size w0 w) (hr : w.ownsRow B e sz v k xs) (hB : w0.heap.size ≤ B) (hg : w.grownBy x v.ownBlock) : Below w0.heap.size w0 x :=
  h.grown hg h.size (fun k e => by have := (hr.lt k e).1; omega)

theorem row_kept_new {B : Nat} {e : TypeId} {sz k : Nat} {v : Value} {xs : List Value} (h : w.ownsRow B e sz v k xs) (hg : w.grownBy x none) : x.ownsRow B e sz v k xs :=
  h.kept hg (by cases v.ownBlock <;> simp)
theorem row_kept_at {B : Nat} {e : TypeId} {sz k : Nat} {v : Value} {xs : List Value} (h : w.ownsRow B e sz v k xs) (hg : w.grownBy x (some N)) (hne : v.ownBlock ≠ some N) : x.ownsRow B e sz v k xs := h.kept hg (.inr hne)
theorem row_ne_lt {B : Nat} {e : TypeId} {sz k : Nat} {v : Value} {xs : List Value} (h : w.ownsRow B e sz v k xs) (hN : N < B) : v.ownBlock ≠ some N := fun e => by have := (h.lt N e).1; omega
/-- Rows of two types lie apart. -/
theorem row_kept_row {B B' : Nat} {e e' : TypeId} {sz sz' k k' : Nat} {v v' : Value} {xs ys : List Value} (h : w.ownsRow B e sz v k xs) (h' : w.ownsRow B' e' sz' v' k' ys) (hg : w.grownBy x v'.ownBlock) (hne : e ≠ e') : x.ownsRow B e sz v k xs := by
  refine h.kept hg ?_
  cases hv : v.ownBlock with
  | none => exact .inl rfl
  | some g =>
    refine .inr fun e1 => ?_
    rcases h.2 with ⟨rfl, _⟩ | ⟨g1, _, _, rfl, _, hg1, _⟩
    · simp [Value.ownBlock] at hv
    · rcases h'.2 with ⟨rfl, _⟩ | ⟨g2, _, _, rfl, _, hg2, _⟩
      · simp [Value.ownBlock] at e1
      · simp [Value.ownBlock] at hv e1
        subst hv
        rw [← e1, hg1] at hg2
        simp at hg2
        exact hne hg2.2
theorem blk_part (h : Blk w N T cs) (k : Nat) {l : List Value} (hl : (cs.toList.drop k).take l.length = l) : w.rangeAt N k l := fun j v hv => by
  refine h.cell ?_
  have hj := (List.getElem?_eq_some_iff.1 hv).1
  rw [← hl, List.getElem?_take, if_pos hj, List.getElem?_drop] at hv
  simpa using hv
/-- A variable, a struct, an array that is made. -/
theorem op_new {v : Nat → Value} (hok : okOps m o.op = true) (hsel : (match o.op with | .select .. => true | _ => false) = false) (hrun : (execOp (lk m) o).run P w = .ok (.value (v w.heap.size)) (w.alloc (.cells cs T))) :
    Op1 P n m o w (fun u x => ∃ N, u = v N ∧ N = w.heap.size ∧ x.heap.size = N + 1 ∧ Blk x N T cs ∧ w.grownBy x none) :=
  (op_run hok hsel hrun).mono fun u x ⟨h1, h2⟩ => by
    subst h2
    exact ⟨w.heap.size, h1, rfl, by simp, heap_alloc_new w _, World.grownBy_alloc w _ none⟩
theorem setCell_blk (h : Blk w N T cs) (k : Nat) (v : Value) : Blk (w.setCell ⟨N, k, none⟩ v) N T (cs.setIfInBounds k v) := by
  have hlt := (Array.getElem?_eq_some_iff.1 h).1
  have hx := (Array.getElem?_eq_some_iff.1 h).2
  unfold Blk World.setCell
  simp only [Array.getElem?_modify, if_true]
  rw [show w.heap[N]? = _ from h]
  simp
theorem grown_setCell (w : World) (N k : Nat) (v : Value) : w.grownBy (w.setCell ⟨N, k, none⟩ v) (some N) := ⟨rfl, rfl, rfl, by simp [World.setCell], fun j _ hj => Below.heap_setCell w _ v j (fun e => hj (by rw [e]))⟩
/-- A store of one cell into a block of the call's own. -/
theorem op_store1 {t : TypeId} {p q : Operand} {k : Nat} {v : Value} (ho : o.op = .store t p q) (hp : ev m p = some (.pointer (some ⟨N, k, none⟩))) (hq : ev m q = some v) (h1 : v.oneCell' = true) (hs : ∀ w : World, (sizeOf t).run P w = .ok 1 w)
    (hb : Blk w N T cs) (hk : Nat.blt k cs.size = true) : Op1 P n m o w (fun _ x => Blk x N T (cs.setIfInBounds k v) ∧ x.heap.size = w.heap.size ∧ w.grownBy x (some N)) := by
  intro a ha K Q hN
  have hk' : k < cs.size := by simpa using hk
  have hc : w.cell? ⟨N, k, none⟩ = some cs[k] := hb.cell (by simp [hk'])
  have hcell : v.cells = #[v] := by cases v <;> simp_all [Value.cells, Value.oneCell']
  have hrun : (Instr.storeAt t (.pointer (some ⟨N, k, none⟩)) v).run P w = .ok () (w.setCell ⟨N, k, none⟩ v) := by
    have h2 := run_storeCells_cells (P := P) N k [v] 0 w (fun j hj => by simp at hj; subst hj; simp [hc]) (fun j hj => by simpa using hb.frozen _) (by simpa using h1)
    simp only [Nat.add_zero] at h2
    simp [Instr.storeAt, Instr.sureAddr, storeVar, hcell, hs, Sem.run_bind, h2, World.setCells]
  unfold Oper.wp execOp
  simp only [ho, ha.ev hp, ha.ev hq, Sem.run_bind, hrun, Result.andThen_ok, Sem.run_pure]
  exact hN _ _ ⟨setCell_blk hb k v, by simp [World.setCell], grown_setCell w N k v⟩
theorem setCells_blk : ∀ (vs : List Value) (w : World) (cs : Array Value) (k : Nat), Blk w N T cs → k + vs.length ≤ cs.size → Blk (w.setCells N k vs) N T (cs.toList.take k ++ vs ++ cs.toList.drop (k + vs.length)).toArray
  | [], w, cs, k, h, _ => by simpa [World.setCells] using h
  | v :: r, w, cs, k, h, hl => by
    simp only [List.length_cons] at hl
    have := setCells_blk r (w.setCell ⟨N, k, none⟩ v) (cs.setIfInBounds k v) (k + 1) (setCell_blk h k v) (by simp; omega)
    rw [World.setCells]
    have e : ((cs.setIfInBounds k v).toList.take (k + 1) ++ r ++ (cs.setIfInBounds k v).toList.drop (k + 1 + r.length)) = cs.toList.take k ++ (v :: r) ++ cs.toList.drop (k + (r.length + 1)) := by
      simp only [Array.toList_setIfInBounds]
      rw [List.take_set, List.drop_set_of_lt (by omega), show k + 1 + r.length = k + (r.length + 1) by omega]
      have : (List.take (k + 1) cs.toList).set k v = cs.toList.take k ++ [v] := by
        rw [List.take_succ_eq_append_getElem (by simp; omega)]
        have hl : (List.take k cs.toList).length = k := by simp; omega
        rw [List.set_append, hl, if_neg (by omega)]
        simp
      rw [this]; simp
    rw [List.length_cons, ← e]; exact this
/-- A store of a whole value into a block of the call's own. -/
theorem op_storeN {t : TypeId} {p q : Operand} {cells : Array Value} (ho : o.op = .store t p q) (hp : ev m p = some (.pointer (some ⟨N, 0, none⟩))) (hq : ev m q = some (.agg cells)) (h1 : cells.all (·.oneCell') = true) (hi : (P.info? t).map (·.size) = some cells.size)
    (hb : Blk w N T cs) (hk : cs.size = cells.size) : Op1 P n m o w (fun _ x => Blk x N T cells ∧ x.heap.size = w.heap.size ∧ w.grownBy x (some N)) := by
  intro a ha K Q hN
  have hthere : w.there N 0 cells.size := fun j hj => ⟨by rw [hb.cell (k := 0 + j) (v := cs[j]) (by simp [hk, hj])]; rfl, hb.frozen _⟩
  refine wp_store_mid t p q ho N 0 cells (ha.ev hp) (ha.ev hq) hthere hi h1 (hN _ _ ⟨?_, ?_, ?_⟩)
  · have := setCells_blk cells.toList w cs 0 hb (by simp [hk])
    have e : (cells.toList ++ List.drop cells.size cs.toList).toArray = cells := by rw [List.drop_eq_nil_of_le (by simp [hk])]; simp
    simp only [List.take_zero, List.nil_append, Nat.zero_add, Array.length_toList, e] at this
    exact this
  · have hsz : ∀ (vs : List Value) (k : Nat) (w : World), (w.setCells N k vs).heap.size = w.heap.size := by
      intro vs
      induction vs with
      | nil => intro k w; rfl
      | cons v r ih => intro k w; rw [World.setCells, ih]; simp [World.setCell]
    exact hsz _ _ _
  · have hg : ∀ (vs : List Value) (k : Nat) (w : World), w.grownBy (w.setCells N k vs) (some N) := by
      intro vs
      induction vs with
      | nil => intro k w; exact World.grownBy.refl _ _
      | cons v r ih => intro k w; rw [World.setCells]; exact (grown_setCell w N k v).trans (ih _ _)
    exact hg _ _ _
/-- 'append(v, news..)', v a row of the call's own. -/
theorem op_append {s q : Operand} {t : TypeId} (ho : o.op = .call { callee := .builtin .append, args := #[s, q], argTypes := #[t, t] })
    (base : Nat) (e : TypeId) {z : Value} {size bytes : Nat} (ht : P.underlying t = some (.slice e)) (hi : (P.info? e).map (fun i => (i.zero, i.size, i.bytes)) = some (some z, size, bytes))
    (hzs : z.cells.size = size) (hsz : Nat.blt 0 size = true) {v : Value} {k : Nat} {xs : List Value} (hs : ev m s = some v) (hown : w.ownsRow base e size v k xs)
    {M q' c : Nat} {ws : Array Value} {T' : TypeId} (hx : ev m q = some (.slice (some ⟨M, 0, none⟩) q' c)) (hb : Blk w M T' ws) (hl : ws.size = q' * size) (h1 : ws.all (·.oneCell') = true)
    (h63 : k + q' ≤ 9223372036854775807) (hbytes : (k + q') * bytes ≤ 140737488355328) (hbase : base ≤ w.heap.size) :
    Op1 P n m o w (fun u x => x.ownsRow base e size u (k + q') (xs ++ ws.toList) ∧ w.grownBy x v.ownBlock) := by
  intro a ha K Q hN
  obtain ⟨i0, hii, hz0, hz1, hz2⟩ := info_parts hi
  refine wp_append_own w s q t ho base e i0 z size bytes ht hii hz0 hz1 hz2 hzs (by simpa using hsz) v k xs (ha.ev hs) hown ⟨M, 0, none⟩ q' c ws.toList (ha.ev hx) (by simpa using hl) ?_ ?_ (by unfold maxLen; exact h63) hbytes hbase (fun v' w' h2 h3 _ => hN _ _ ⟨h2, h3⟩)
  · intro j u hu
    rw [Addr.add_lit, Nat.zero_add]
    exact hb.cell (by simpa using hu)
  · intro u hu
    exact (Array.all_eq_true_iff_forall_mem.1 h1) u (by simpa using hu)

/-! ### A region that draws its order begins -/
section
variable {Q : Exit → Act → World → Prop} {a : Act}
theorem drew_grown (w : World) : w.grownBy w.drew none := ⟨rfl, rfl, rfl, Nat.le_refl _, fun _ _ _ => rfl⟩
theorem dr_eq {id : Nat} {l : List Oper} (hm : P.follows .mixedOrders = true) (h : ∀ wd, w.grownBy wd none → wpAnyH P .any l.toArray (NP Q) (fun x => x = wd) l.length (Array.replicate l.length false) a wd) : (Code.region id l.toArray true).wp P Q a w :=
  dr_start (S := fun x => x = w.drew) hm rfl (h _ (drew_grown w))
theorem dr_gen {id : Nat} {l : List Oper} (S : World → Prop) (hm : P.follows .mixedOrders = true) (hS : ∀ wd, w.grownBy wd none → S wd) (h : ∀ wd, w.grownBy wd none → wpAnyH P .any l.toArray (NP Q) S l.length (Array.replicate l.length false) a wd) : (Code.region id l.toArray true).wp P Q a w :=
  dr_start hm (hS _ (drew_grown w)) (h _ (drew_grown w))
end

/-! ### Slices that came in: the value is whatever it is, its place is told by two functions -/
def blkOf : Value → Nat
  | .slice (some a) _ _ => a.block
  | _ => 0
def offOf : Value → Nat
  | .slice (some a) _ _ => a.off
  | _ => 0
variable {α : Type} {enc : α → List Value} {sz : Nat} {v : Value} {l : List α}
theorem sl_len (h : SliceOf enc sz w v l) : l.length ≤ 9223372036854775807 := by obtain ⟨_, _, _, h1, h2, _⟩ := h; omega
theorem sl_at (h : SliceOf enc sz w v l) {i : Nat} {y : α} (hy : l[i]? = some y) : w.rangeAt (blkOf v) (offOf v + i * sz) (enc y) := by
  obtain ⟨ao, cap, rfl, _, _, _, hc⟩ := h
  obtain ⟨hi, e⟩ := List.getElem?_eq_some_iff.1 hy
  obtain ⟨b, off, rfl, hr⟩ := hc i hi
  rw [← e]; exact hr
/-- 'len(v)' -/
theorem rn_len {t : TypeId} {q : Operand} (ho : o.op = .call { callee := .builtin .len, args := #[q], argTypes := #[t] }) (hq : ev m q = some v) {e : TypeId} (ht : P.underlying t = some (.slice e)) (h : SliceOf enc sz w v l) : (execOp (lk m) o).run P w = .ok (.value (.int .i64 (l.length : Nat))) w := by
  obtain ⟨ao, cap, rfl, _, _, _, hc⟩ := h
  unfold execOp
  simp [ho, resolve, invoke, builtin, Sem.run_bind, lk_ev hq, Builtin.len_, goInt, run_underlying ht]
theorem rn_lenStr {t : TypeId} {q : Operand} {s : ByteArray} (ho : o.op = .call { callee := .builtin .len, args := #[q], argTypes := #[t] }) (hq : ev m q = some (.string s)) (ht : P.underlying t = some .string) : (execOp (lk m) o).run P w = .ok (.value (.int .i64 (s.size : Nat))) w := by
  unfold execOp
  simp [ho, resolve, invoke, builtin, Sem.run_bind, lk_ev hq, Builtin.len_, goInt, run_underlying ht]
/-- 'v[i]' as an address -/
theorem rn_index {t e : TypeId} {q r : Operand} {k : IntKind} {i : Int} {j : Nat} (ho : o.op = .indexAddr t q r) (hq : ev m q = some v) (hr : ev m r = some (.int k i)) (ht : P.underlying t = some (.slice e)) (hs : ∀ w : World, (sizeOf e).run P w = .ok sz w)
    (h : SliceOf enc sz w v l) (hij : i = (j : Nat)) (hj : j < l.length) : (execOp (lk m) o).run P w = .ok (.value (.pointer (some ⟨blkOf v, offOf v + j * sz, none⟩))) w := by
  subst hij
  obtain ⟨ao, cap, rfl, _, _, _, hc⟩ := h
  obtain ⟨b, off, rfl, _⟩ := hc j hj
  have hrun : (Instr.indexAt t (.slice (some ⟨b, off, none⟩) l.length cap) (.int k j)).run P w = .ok (.pointer (some ⟨b, off + j * sz, none⟩)) w := by
    have h0 : (0 : Int) ≤ (j : Nat) ∧ ((j : Nat) : Int) < (l.length : Nat) := by omega
    simp [Instr.indexAt, asIntOf, run_underlying ht, Sem.run_bind, h0, hs, hj, Addr.add_lit]
  unfold execOp
  simp only [ho, lk_ev hq, lk_ev hr, Sem.run_bind, hrun, Result.andThen_ok, Sem.run_pure]
  rfl
/-- A slice of another type, or nil, that is read as nothing. -/
theorem sl_nil (w : World) : SliceOf enc sz w (.slice none 0 0) ([] : List α) := SliceOf.nil _ _ _
end
end Go.Proofs.YtcbagajjgbfgdaaGreat

/- Slices that are cut, and appended from. Conditions: none. -/
namespace Go.Proofs.YtcbagajjgbfgdaaGreat
open Go.RowKit Go.PlainAid

theorem wp_append_src {P : Program} {w : World} {o : Oper} {a : Act} {K : Act → World → Prop} {Q : Exit → Act → World → Prop} (s x : Operand) (t : TypeId)
    (ho : o.op = .call { callee := .builtin .append, args := #[s, x], argTypes := #[t, t] })
    (base : Nat) (e : TypeId) (i : TypeInfo) (z : Value) (size bytes : Nat) (ht : P.underlying t = some (.slice e)) (hi : P.info? e = some i) (hz : i.zero = some z)
    (hsize : i.size = size) (hby : i.bytes = bytes) (hzs : z.cells.size = size) (hsz : 0 < size)
    (v : Value) (n : Nat) (xs : List Value) (hs : a.eval s = v) (hown : w.ownsRow base e size v n xs)
    {α : Type} (enc : α → List Value) (l : List α) (vs : Value) (hx : a.eval x = vs) (hsl : SliceOf enc size w vs l) (hen : ∀ y ∈ l, (enc y).length = size ∧ ∀ u ∈ enc y, u.oneCell' = true)
    (h63 : n + l.length ≤ maxLen) (hbytes : (n + l.length) * bytes ≤ 140737488355328) (hbase : base ≤ w.heap.size)
    (h : ∀ v' w', w'.ownsRow base e size v' (n + l.length) (xs ++ l.flatMap enc) → w.grownBy w' v.ownBlock → K (a.put o.dst v') w') : o.wp P a w K Q := by
  obtain ⟨ao, cap, rfl, _, _, hnil, hcell⟩ := hsl
  have hl := flat_len l (fun y hy => (hen y hy).1)
  cases ao with
  | none =>
    obtain ⟨e0, e1⟩ := hnil rfl
    obtain rfl : l = [] := List.eq_nil_of_length_eq_zero e0
    subst e1
    have hrun := run_append_owned_none (P := P) (w := w) base t o.type e i size ht hi v n xs hown
    have hx' : a.eval x = .slice none 0 0 := by simpa using hx
    unfold Oper.wp
    simp [execOp, ho, resolve, invoke, builtin, hs, hx', hrun, Result.andThen]
    exact h v w (by simpa using hown) (World.grownBy.refl _ _)
  | some ad =>
    refine wp_append_own _ s x t ho base e i z size bytes ht hi hz hsize hby hzs hsz v n xs hs hown ad l.length cap (l.flatMap enc) hx hl ?_ ?_ h63 hbytes hbase (fun v' w' h1 h2 _ => h v' w' h1 h2)
    · intro j u hu
      have hj : j < l.length * size := by rw [← hl]; exact (List.getElem?_eq_some_iff.1 hu).1
      have hq : j / size < l.length := Nat.div_lt_of_lt_mul (by rw [Nat.mul_comm]; exact hj)
      obtain ⟨b, off, hb, hr⟩ := hcell _ hq
      cases hb
      rw [Addr.add_lit]
      have hdm : j / size * size + j % size = j := by rw [Nat.mul_comm]; exact Nat.div_add_mod j size
      have hr' := hr (j % size) u
      rw [Nat.add_assoc, hdm] at hr'
      refine hr' ?_
      rw [← flat_at l (j / size) (j % size) hq (fun y hy => (hen y hy).1) (Nat.mod_lt _ hsz), hdm]; exact hu
    · intro u hu
      obtain ⟨y, hy, huy⟩ := List.mem_flatMap.1 hu
      exact (hen y hy).2 u huy
end Go.Proofs.YtcbagajjgbfgdaaGreat

/- Steps of a walk over known slots: slices cut, appended from, rows as lists, closures, structs compared. Conditions: none. -/
namespace Go.Proofs.YtcbagajjgbfgdaaGreat
open Go.RowKit

section
variable {P : Program} {n : Nat} {m : List (Nat × Value)} {w x : World} {o : Oper} {N : Nat} {T : TypeId} {cs : Array Value} {α : Type} {enc : α → List Value} {sz : Nat} {v : Value} {l : List α}

/-- 'append(v, src..)', v a row of the call's own, src any slice that is read. -/
theorem op_appendSrc {s q : Operand} {t : TypeId} (ho : o.op = .call { callee := .builtin .append, args := #[s, q], argTypes := #[t, t] })
    (base : Nat) (e : TypeId) {z : Value} {size bytes : Nat} (ht : P.underlying t = some (.slice e)) (hi : (P.info? e).map (fun i => (i.zero, i.size, i.bytes)) = some (some z, size, bytes))
    (hzs : z.cells.size = size) (hsz : Nat.blt 0 size = true) {u : Value} {k : Nat} {xs : List Value} (hs : ev m s = some u) (hown : w.ownsRow base e size u k xs)
    (hx : ev m q = some v) (hsl : SliceOf enc size w v l) (hen : ∀ y ∈ l, (enc y).length = size ∧ ∀ u ∈ enc y, u.oneCell' = true)
    (h63 : k + l.length ≤ 9223372036854775807) (hbytes : (k + l.length) * bytes ≤ 140737488355328) (hbase : base ≤ w.heap.size) :
    Op1 P n m o w (fun r x => x.ownsRow base e size r (k + l.length) (xs ++ l.flatMap enc) ∧ w.grownBy x u.ownBlock) := by
  intro a ha K Q hN
  obtain ⟨i0, hii, hz0, hz1, hz2⟩ := info_parts hi
  exact wp_append_src s q t ho base e i0 z size bytes ht hii hz0 hz1 hz2 hzs (by simpa using hsz) u k xs (ha.ev hs) hown enc l v (ha.ev hx) hsl hen (by unfold maxLen; exact h63) hbytes hbase (fun v' w' h2 h3 => hN _ _ ⟨h2, h3⟩)
theorem row_of_blk {base : Nat} (h : Blk w N T #[]) (hb : base ≤ N) (sz : Nat) : w.ownsRow base T sz (.slice (some ⟨N, 0, none⟩) 0 0) 0 [] :=
  ⟨by simp, .inr ⟨N, 0, #[], rfl, hb, h, Nat.le_refl _, by decide, by simp, by simp⟩⟩
theorem row_of_blkL {base : Nat} (h : Blk w N T #[]) (hb : base ≤ N) (sz : Nat) (enc : α → List Value) : w.ownsRow base T sz (.slice (some ⟨N, 0, none⟩) 0 0) ([] : List α).length (([] : List α).flatMap enc) := row_of_blk h hb sz
theorem row_nilL (w : World) (base : Nat) (T : TypeId) (sz : Nat) (enc : α → List Value) : w.ownsRow base T sz (.slice none 0 0) ([] : List α).length (([] : List α).flatMap enc) := World.ownsRow_nil _ _ _ _
theorem row_push {base : Nat} {u : Value} {y : α} {k : Nat} {xs : List Value} (h : w.ownsRow base T sz u (l.length + k) (l.flatMap enc ++ xs)) (hk : k = 1) (he : enc y = xs) : w.ownsRow base T sz u (l ++ [y]).length ((l ++ [y]).flatMap enc) := by
  subst hk he; simpa using h
theorem row_app {base : Nat} {u : Value} {l' : List α} (h : w.ownsRow base T sz u (l.length + l'.length) (l.flatMap enc ++ l'.flatMap enc)) : w.ownsRow base T sz u (l ++ l').length ((l ++ l').flatMap enc) := by
  simpa using h
theorem row_lows {base base' : Nat} {u : Value} {k : Nat} {xs : List Value} (h : w.ownsRow base T sz u k xs) (hb : base' ≤ base) : w.ownsRow base' T sz u k xs := by
  refine ⟨h.1, ?_⟩
  rcases h.2 with h2 | ⟨g, c, r, e, hg, h3⟩
  · exact .inl h2
  · exact .inr ⟨g, c, r, e, by omega, h3⟩
theorem row_eq {base : Nat} {u : Value} {l' : List α} (h : w.ownsRow base T sz u l.length (l.flatMap enc)) (e : l = l') : w.ownsRow base T sz u l'.length (l'.flatMap enc) := by subst e; exact h
theorem row_sl {base : Nat} (h : w.ownsRow base T sz v l.length (l.flatMap enc)) (hsz : ∀ y : α, (enc y).length = sz) : SliceOf enc sz w v l := SliceOf.own h (fun y _ => hsz y)
theorem row_fresh {base : Nat} {k : Nat} {xs : List Value} (h : w.ownsRow base T sz v k xs) (hN : N = w.heap.size) : v.ownBlock ≠ some N := fun e => by have := (h.lt N e).2; omega
theorem rn_neS {T T' : TypeId} {q r : Operand} {a b : Array Value} {c : Bool} (ho : o.op = .binOp .neq T q r T') (hq : ev m q = some (.agg a)) (hr : ev m r = some (.agg b)) (hg : P.eqGuardType P.depth T = false) (h : (binOp .eql T (.agg a) (.agg b)).run P w = .ok (.bool c) w) : (execOp (lk m) o).run P w = .ok (.value (.bool !c)) w := by
  unfold execOp
  have h0 : (eqGuard .neq T q r (.agg a) (.agg b)).run P w = .ok () w := by
    simp [eqGuard, Sem.run_bind, run_program, hg]
  have h1 : (binOp .neq T (.agg a) (.agg b)).run P w = .ok (.bool !c) w := by
    have h2 : (Op.equal T (.agg a) (.agg b)).run P w = .ok c w := by
      cases h3 : (Op.equal T (.agg a) (.agg b)).run P w with
      | ok y w1 =>
        simp only [binOp, Sem.run_bind, h3, Result.andThen_ok, Sem.run_pure, Result.ok.injEq, Value.bool.injEq] at h
        rw [h.1, h.2]
      | halt y w1 => simp [binOp, Sem.run_bind, h3] at h
    simp only [binOp, Sem.run_bind, h2, Result.andThen_ok, Sem.run_pure]
  simp only [ho, lk_ev hq, lk_ev hr, Sem.run_bind, h0, h1, Result.andThen_ok, Sem.run_pure]
/-- A struct and a slot as results. -/
theorem co_retC1 {Q : Exit → Act → World → Prop} {a : Act} {fn : Func} {E : Ending → World → Prop} {t u : Nat} {T' : TypeId} {y : Value} {d : TypeDesc} (hs : Slots n m a) (hr : fn.results = #[.cell t T', .tmp u]) (ht : m.lookup t = some (.pointer (some ⟨N, 0, none⟩))) (hu : m.lookup u = some y) (hb : Blk w N T cs)
    (hd : P.underlying T' = some d) (hrow : d.isRow = true) (hi : (P.info? T').map (·.size) = some cs.size) (h : E (.returned (.tuple #[.agg cs, y])) w) : bodyPost P fn E .ret a w := by
  have h1 := hs.look t _ ht
  have h2 := hs.look u _ hu
  have hl := run_loadVar_mid w N 0 T' cs.toList d hb.all hd hrow (by simpa using hi)
  have hrun : (results fn a.tmps).run P w = .ok (.tuple #[.agg cs, y]) w := by
    have h1' : (a.tmps[t]?).getD undef = .pointer (some ⟨N, 0, none⟩) := by rw [← h1, Array.getD_eq_getD_getElem?]
    have h2' : (a.tmps[u]?).getD undef = y := by rw [← h2, Array.getD_eq_getD_getElem?]
    simp [results, hr, h1', h2', asAddr, hl, Sem.run_bind]
  exact bodyPost_ret hrun hs.defers h
/-- A struct as the result. -/
theorem co_retC {Q : Exit → Act → World → Prop} {a : Act} {fn : Func} {E : Ending → World → Prop} {t : Nat} {T' : TypeId} {d : TypeDesc} (hs : Slots n m a) (hr : fn.results = #[.cell t T']) (ht : m.lookup t = some (.pointer (some ⟨N, 0, none⟩))) (hb : Blk w N T cs)
    (hd : P.underlying T' = some d) (hrow : d.isRow = true) (hi : (P.info? T').map (·.size) = some cs.size) (h : E (.returned (.agg cs)) w) : bodyPost P fn E .ret a w := by
  have h1 := hs.look t _ ht
  have hl := run_loadVar_mid w N 0 T' cs.toList d hb.all hd hrow (by simpa using hi)
  have hrun : (results fn a.tmps).run P w = .ok (.agg cs) w := by
    have h1' : (a.tmps[t]?).getD undef = .pointer (some ⟨N, 0, none⟩) := by rw [← h1, Array.getD_eq_getD_getElem?]
    simp [results, hr, h1', asAddr, hl, Sem.run_bind]
  exact bodyPost_ret hrun hs.defers h
end
end Go.Proofs.YtcbagajjgbfgdaaGreat

/- Drawn regions in which several operations may come up: each way for itself. Conditions: none. -/
namespace Go.Proofs.YtcbagajjgbfgdaaGreat
open Go.RowKit

section
variable {P : Program} {n : Nat} {m : List (Nat × Value)} {w : World} {o : Oper} {ops : Array Oper} {Q : Exit → Act → World → Prop} {R : Value → World → Prop} {md : Region.Mode} {S : World → Prop} {fuel i d : Nat} {listed : Array Bool} {a : Act}
def AllW (P : Program) (md : Region.Mode) (ops : Array Oper) (Q : Exit → Act → World → Prop) (S : World → Prop) (fuel : Nat) (listed : Array Bool) (a : Act) (w : World) : List Nat → Prop
  | [] => True
  | i :: r => wpOp P ops (NP Q) i (fun a' w' => S w' ∧ wpAnyH P md ops (NP Q) S fuel (listed.setIfInBounds i true) a' w') a w ∧ AllW P md ops Q S fuel listed a w r
theorem AllW.all : ∀ (rs : List Nat), AllW P md ops Q S fuel listed a w rs → ∀ i ∈ rs, wpOp P ops (NP Q) i (fun a' w' => S w' ∧ wpAnyH P md ops (NP Q) S fuel (listed.setIfInBounds i true) a' w') a w
  | [], _, _, h => by cases h
  | i :: r, h, j, hj => by
    rcases List.mem_cons.1 hj with rfl | hj
    · exact h.1
    · exact AllW.all r h.2 j hj
/-- Several may come up. -/
theorem dr_many (rs : List Nat) (hr : Region.ready md ops listed = rs) (hne : rs ≠ []) (h : AllW P md ops Q S fuel listed a w rs) : wpAnyH P md ops (NP Q) S (fuel + 1) listed a w := wpAnyH_all hr hne (AllW.all rs h)
theorem dr_op (hs : Slots n m a) (ho : ops[i]? = some o) (hw : wantB m ops o = some true) (hd : o.dst = some d) (hdn : Nat.blt d n = true) (h1 : Op1 P n m o w R) (hS : ∀ v w', R v w' → S w')
    (h : ∀ v w' a', R v w' → Slots n ((d, v) :: m) a' → wpAnyH P md ops (NP Q) S fuel (listed.setIfInBounds i true) a' w') : wpOp P ops (NP Q) i (fun a' w' => S w' ∧ wpAnyH P md ops (NP Q) S fuel (listed.setIfInBounds i true) a' w') a w := by
  unfold wpOp
  simp only [ho, hs.wants hw, if_true]
  exact .inl (h1 a hs _ _ fun v w' hv => ⟨hS v w' hv, h v w' _ hv (by rw [hd]; exact hs.put (by simpa using hdn))⟩)
/-- One that yields v and leaves the world as it is. -/
theorem dr_opVal {v : Value} (hs : Slots n m a) (ho : ops[i]? = some o) (hw : wantB m ops o = some true) (hd : o.dst = some d) (hdn : Nat.blt d n = true) (hok : okOps m o.op = true) (hsel : (match o.op with | .select .. => true | _ => false) = false) (hrun : (execOp (lk m) o).run P w = .ok (.value v) w) (hS : S w)
    (h : ∀ a', Slots n ((d, v) :: m) a' → wpAnyH P md ops (NP Q) S fuel (listed.setIfInBounds i true) a' w) : wpOp P ops (NP Q) i (fun a' w' => S w' ∧ wpAnyH P md ops (NP Q) S fuel (listed.setIfInBounds i true) a' w') a w :=
  dr_op hs ho hw hd hdn (op_run hok hsel hrun) (fun _ _ ⟨_, h2⟩ => by subst h2; exact hS) (fun _ _ a' ⟨h1, h2⟩ hs' => by subst h1 h2; exact h a' hs')
end
theorem row_one {w : World} {B sz k : Nat} {T : TypeId} {v : Value} {xs : List Value} (h : w.ownsRow B T sz v k xs) : v.oneCell' = true := by
  rcases h.2 with ⟨rfl, _⟩ | ⟨g, cap, cur, rfl, _⟩ <;> rfl
theorem sl_one {α : Type} {enc : α → List Value} {sz : Nat} {w : World} {v : Value} {l : List α} (h : SliceOf enc sz w v l) : v.oneCell' = true := by
  obtain ⟨ao, cap, rfl, _⟩ := h; rfl
theorem all_nil : ([] : List Value).toArray.all (·.oneCell') = true := by simp
theorem all_cons {u : Value} {l : List Value} (h : u.oneCell' = true) (hl : l.toArray.all (·.oneCell') = true) : (u :: l).toArray.all (·.oneCell') = true := by
  simp only [List.all_toArray, List.all_cons, Bool.and_eq_true] at hl ⊢
  exact ⟨h, hl⟩
/-- A pointer. -/
abbrev pt (b o : Nat) : Value := .pointer (some ⟨b, o, none⟩)
/-! ### Short forms: what follows by computing alone stands behind. -/
section
variable {P : Program} {n : Nat} {m : List (Nat × Value)} {w : World} {o : Oper} {ops : Array Oper} {rest : List Oper} {Q : Exit → Act → World → Prop} {R : Value → World → Prop} {md : Region.Mode} {S : World → Prop} {fuel d : Nat} {listed : Array Bool} {a : Act} {v : Value}
theorem pk (hs : Slots n m a) (hd : o.dst = some d) (hrun : (execOp (lk m) o).run P w = .ok (.value v) w) (h : ∀ a', Slots n ((d, v) :: m) a' → wpList P ops Q rest a' w)
    (hg : wantB m ops o = some true := by rfl) (hdn : Nat.blt d n = true := by rfl) (hok : okOps m o.op = true := by kernel_rfl) (hsel : (match o.op with | .select .. => true | _ => false) = false := by kernel_rfl) : wpList P ops Q (o :: rest) a w := pl_val hs hg hd hdn hok hsel hrun h
theorem pk0 (hs : Slots n m a) (hd : o.dst = some d) (h : ∀ a', Slots n ((d, v) :: m) a' → wpList P ops Q rest a' w)
    (hg : wantB m ops o = some true := by rfl) (hdn : Nat.blt d n = true := by rfl) (hok : okOps m o.op = true := by kernel_rfl) (hsel : (match o.op with | .select .. => true | _ => false) = false := by kernel_rfl) (hrun : (execOp (lk m) o).run P w = .ok (.value v) w := by kernel_rfl) : wpList P ops Q (o :: rest) a w := pl_val hs hg hd hdn hok hsel hrun h
theorem pw (hs : Slots n m a) (hd : o.dst = some d) (h1 : Op1 P n m o w R) (h : ∀ v w' a', R v w' → Slots n ((d, v) :: m) a' → wpList P ops Q rest a' w') (hg : wantB m ops o = some true := by rfl) (hdn : Nat.blt d n = true := by rfl) : wpList P ops Q (o :: rest) a w := pl_want hs hg hd hdn h1 h
theorem pwD (hs : Slots n m a) (hd : o.dst = none) (h1 : Op1 P n m o w R) (h : ∀ v w' a', R v w' → Slots n m a' → wpList P ops Q rest a' w') (hg : wantB m ops o = some true := by rfl) : wpList P ops Q (o :: rest) a w := pl_doW hs hg hd h1 h
theorem psk (hs : Slots n m a) (hd : o.dst = some d) (h : ∀ a', Slots n ((d, undef) :: m) a' → wpList P ops Q rest a' w) (hg : wantB m ops o = some false := by rfl) (hdn : Nat.blt d n = true := by rfl) : wpList P ops Q (o :: rest) a w := pl_skip hs hg hd hdn h
theorem dk (i : Nat) (hs : Slots n m a) (ho : ops[i]? = some o) (hd : o.dst = some d) (hS : S w) (hrun : ∀ w, S w → (execOp (lk m) o).run P w = .ok (.value v) w) (h : ∀ a', Slots n ((d, v) :: m) a' → wpAnyH P md ops (NP Q) S fuel (listed.setIfInBounds i true) a' w)
    (hsel : Region.noSelect ops = true := by kernel_rfl) (hf : Region.free md ops listed i = true := by kernel_rfl) (hr : (Region.ready md ops listed).contains i = true := by kernel_rfl) (hw : wantB m ops o = some true := by rfl) (hdn : Nat.blt d n = true := by rfl) (hok : okOps m o.op = true := by kernel_rfl) : wpAnyH P md ops (NP Q) S (fuel + 1) listed a w := dr_take hs ho hsel hf hr hw hd hdn hS hok hrun h
theorem dk0 (i : Nat) (hs : Slots n m a) (ho : ops[i]? = some o) (hd : o.dst = some d) (hS : S w) (h : ∀ a', Slots n ((d, v) :: m) a' → wpAnyH P md ops (NP Q) S fuel (listed.setIfInBounds i true) a' w)
    (hsel : Region.noSelect ops = true := by kernel_rfl) (hf : Region.free md ops listed i = true := by kernel_rfl) (hr : (Region.ready md ops listed).contains i = true := by kernel_rfl) (hw : wantB m ops o = some true := by rfl) (hdn : Nat.blt d n = true := by rfl) (hok : okOps m o.op = true := by kernel_rfl) (hrun : ∀ w, S w → (execOp (lk m) o).run P w = .ok (.value v) w := by intro _ _; kernel_rfl) : wpAnyH P md ops (NP Q) S (fuel + 1) listed a w := dr_take hs ho hsel hf hr hw hd hdn hS hok hrun h
theorem dsk (i : Nat) (hs : Slots n m a) (ho : ops[i]? = some o) (hd : o.dst = some d) (hS : S w) (h : ∀ a', Slots n ((d, undef) :: m) a' → wpAnyH P md ops (NP Q) S fuel (listed.setIfInBounds i true) a' w)
    (hsel : Region.noSelect ops = true := by kernel_rfl) (hf : Region.free md ops listed i = true := by kernel_rfl) (hr : (Region.ready md ops listed).contains i = true := by kernel_rfl) (hw : wantB m ops o = some false := by rfl) (hdn : Nat.blt d n = true := by rfl) : wpAnyH P md ops (NP Q) S (fuel + 1) listed a w := dr_skip hs ho hsel hf hr hw hd hdn hS h
theorem d1 (i : Nat) (hs : Slots n m a) (ho : ops[i]? = some o) (hd : o.dst = some d) (h1 : Op1 P n m o w R) (hS : ∀ v w', R v w' → S w') (h : ∀ v w' a', R v w' → Slots n ((d, v) :: m) a' → wpAnyH P md ops (NP Q) S fuel (listed.setIfInBounds i true) a' w')
    (hr : Region.ready md ops listed = [i] := by kernel_rfl) (hw : wantB m ops o = some true := by rfl) (hdn : Nat.blt d n = true := by rfl) : wpAnyH P md ops (NP Q) S (fuel + 1) listed a w := dr_one hs ho hr hw hd hdn h1 hS h
theorem d1D (i : Nat) (hs : Slots n m a) (ho : ops[i]? = some o) (hd : o.dst = none) (h1 : Op1 P n m o w R) (hS : ∀ v w', R v w' → S w') (h : ∀ v w' a', R v w' → Slots n m a' → wpAnyH P md ops (NP Q) S fuel (listed.setIfInBounds i true) a' w')
    (hr : Region.ready md ops listed = [i] := by kernel_rfl) (hw : wantB m ops o = some true := by rfl) : wpAnyH P md ops (NP Q) S (fuel + 1) listed a w := dr_oneDo hs ho hr hw hd h1 hS h
end
end Go.Proofs.YtcbagajjgbfgdaaGreat

/- Writers and readers that a walk has made: what they hold, what a call on them turns. Conditions: none. -/
namespace Go.Proofs.YtcbagajjgbfgdaaGreat
open Go.RowKit Go.PlainAid
set_option linter.unusedVariables false

section
variable {w x w0 : World} {b N : Nat} {l l' : List UInt8} {m m' : Nat} {e : Int}
theorem but_grown (h : But (Own b) w x) : w.grownBy x (some b) := ⟨h.os, h.tape, h.output, h.size, fun k hk hne => h.block k hk (fun e => hne (by rw [show k = b from e]))⟩
theorem grown_but {row : Option Nat} (h : w.grownBy x row) : But (fun k => row = some k) w x := ⟨h.os, h.tape, h.output, h.size, fun k hk hn => h.block k hk (fun e => hn e.symm)⟩
theorem Wr.lt' {B : Nat} (h : Wr w b B l e) : b < w.heap.size := World.block_lt_of_cell? w _ h.made
theorem Wr.keep {S : Nat → Prop} {B : Nat} (h : Wr w b B l e) (hb : But S w x) (hs : ¬ S b) (hr : ∀ k, rowOf w b = some k → ¬ S k) : Wr x b B l e := by
  have hl := h.lt'
  obtain ⟨v, hc, h1, h2⟩ := h.buf
  have hr' : ∀ k, v.ownBlock = some k → ¬ S k := fun k hk => hr k (by rw [rowOf_cell hc]; exact hk)
  refine ⟨hb.cell hs h.made, hb.cell hs h.err, by rw [hb.frozen hl hs]; exact h.fr1, by rw [hb.frozen hl hs]; exact h.fr2, h.lt, Nat.le_trans h.le hb.size, v, hb.cell hs hc, h1, ?_⟩
  rcases h2 with h2 | ⟨g, cap, cur, hv, hg, hh, r⟩
  · exact Or.inl h2
  · exact Or.inr ⟨g, cap, cur, hv, hg, by rw [hb.block g (Array.getElem?_eq_some_iff.1 hh).1 (hr' g (by rw [hv]; rfl))]; exact hh, r⟩
theorem Wr.row_is {B : Nat} (h : Wr w b B l e) {k : Nat} (hk : rowOf w b = some k) : ∃ cs, w.heap[k]? = some (.cells cs 5 (0, 0)) := by
  obtain ⟨v, hc, h1, h2⟩ := h.buf
  rw [rowOf_cell hc] at hk
  rcases h2 with ⟨hv, _⟩ | ⟨g, cap, cur, hv, hg, hh, r⟩
  · rw [hv] at hk; cases hk
  · rw [hv] at hk
    have : g = k := by simpa [Value.ownBlock] using hk
    subst this; exact ⟨cur, hh⟩
theorem Wr.ne_blk {B : Nat} {T : TypeId} {cs : Array Value} (h : Wr w b B l e) (hk : Blk w N T cs) (hT : T ≠ 5) : rowOf w b ≠ some N := fun e1 => by
  obtain ⟨c, h1⟩ := h.row_is e1
  unfold Blk at hk
  rw [hk] at h1
  injection h1 with h1; injection h1 with h2 h3
  exact hT h3
theorem Wr.ne_row {B B' k sz : Nat} {T : TypeId} {v : Value} {xs : List Value} (h : Wr w b B l e) (hr : w.ownsRow B' T sz v k xs) (hT : T ≠ 5) : ∀ g, v.ownBlock = some g → rowOf w b ≠ some g := fun g hg e1 => by
  obtain ⟨c, h1⟩ := h.row_is e1
  rcases hr.2 with ⟨hv, _⟩ | ⟨g', cap, cur, hv, _, hh, _⟩
  · rw [hv] at hg; cases hg
  · rw [hv] at hg
    have : g' = g := by simpa [Value.ownBlock] using hg
    subst this
    rw [hh] at h1
    injection h1 with h1; injection h1 with h2 h3
    exact hT h3
/-- The program's writer, block b: l, of at most m bytes, and no error. -/
structure OW (b : Nat) (l : List UInt8) (m : Nat) (w : World) : Prop where
  wr : Wr w b (b + 1) l 0
  len : l.length ≤ m
theorem OW.lt (h : OW b l m w) : b < w.heap.size := h.wr.lt'
theorem OW.below (h : OW b l m w) (hb : Below w.heap.size w x) : OW b l m x := ⟨h.wr.below hb, h.len⟩
theorem OW.new (h : OW b l m w) (hg : w.grownBy x none) : OW b l m x := h.below (grown_below hg)
theorem OW.eq (h : OW b l m w) (he : l = l') (hm : m ≤ m') : OW b l' m' w := by subst he; exact ⟨h.wr, Nat.le_trans h.len hm⟩
theorem OW.at {T : TypeId} {cs : Array Value} (h : OW b l m w) (hk : Blk w N T cs) (hT : T ≠ 5) (hne : b ≠ N) (hg : w.grownBy x (some N)) : OW b l m x :=
  ⟨h.wr.keep (grown_but hg) (fun e1 => hne (Option.some.inj e1).symm) (fun k hk' e1 => h.wr.ne_blk hk hT (by rw [hk']; exact e1.symm)), h.len⟩
theorem OW.row {B' k sz : Nat} {T : TypeId} {v : Value} {xs : List Value} (h : OW b l m w) (hr : w.ownsRow B' T sz v k xs) (hT : T ≠ 5) (hne : v.ownBlock ≠ some b) (hg : w.grownBy x v.ownBlock) : OW b l m x :=
  ⟨h.wr.keep (grown_but hg) hne (fun k hk' e1 => h.wr.ne_row hr hT k e1 hk'), h.len⟩
theorem blk_wr {T : TypeId} {cs : Array Value} (hk : Blk w N T cs) (h : OW b l m w) (hT : T ≠ 5) (hne : N ≠ b) (hb : But (Rw w b) w x) : Blk x N T cs := by
  have hl := hk.lt
  unfold Blk at hk ⊢
  rw [hb.block N hl ?_]
  · exact hk
  · rintro (h1 | h1)
    · exact hne h1
    · exact h.wr.ne_blk hk hT h1
theorem hb_wr (h0 : Below w0.heap.size w0 w) (h : OW b l m w) (hlt : w0.heap.size ≤ b) (hb : But (Rw w b) w x) : Below w0.heap.size w0 x :=
  below_but h0 hb h0.size (fun k _ hk => by
    rcases h.wr.only hk with h1 | h1 <;> omega)
theorem sum_le {k q : Nat} (h : l.length ≤ m) (hk : l'.length ≤ k) (hq : q = m + k) : (l ++ l').length ≤ q := by rw [List.length_append]; omega
theorem ow_new (w : World) : Calls Tryz.prog 18 #[] w fun e w' => ∃ b, e = .returned (.pointer (some ⟨b, 0, none⟩)) ∧ b = w.heap.size ∧ OW b [] 0 w' ∧ Below w.heap.size w w' :=
  (wnew_any w).mono (by
    rintro e x ⟨rfl, hf, hz, hb⟩
    exact ⟨_, rfl, rfl, ⟨hf.wr (Below.refl _ _) (Nat.lt_succ_self _) (by omega), by simp⟩, hb⟩)
theorem ow_num (b : Nat) (l : List UInt8) (m : Nat) (n : Int) (w : World) (h : OW b l m w) (hm : m ≤ 140737488355000) (h0 : 0 ≤ n) (h1 : n ≤ 9223372036854775807) :
    Calls Tryz.prog 19 #[.pointer (some ⟨b, 0, none⟩), .int .i64 n] w fun e w' => e = .returned (.pointer (some ⟨b, 0, none⟩)) ∧ OW b (l ++ putL n) (m + 9) w' ∧ But (Rw w b) w w' :=
  (wNum_rw b (b + 1) l 0 n w h.wr (Nat.le_trans h.len hm) h1).mono (by
    rintro e x ⟨rfl, hw, hb⟩
    have e1 : wNum n (l, 0) = (l ++ putL n, 0) := by unfold wNum; rw [if_neg (by simp), if_neg (by omega)]
    rw [e1] at hw
    exact ⟨rfl, ⟨hw, sum_le h.len (putL_le n) rfl⟩, hb⟩)
theorem ow_big (b : Nat) (l : List UInt8) (m : Nat) (n : Int) (w : World) (h : OW b l m w) (hm : m ≤ 140737488355000) (h0 : 0 ≤ n) (h1 : n < 18446744073709551616) :
    Calls Tryz.prog 58 #[.pointer (some ⟨b, 0, none⟩), .int .u64 n] w fun e w' => e = .returned (.pointer (some ⟨b, 0, none⟩)) ∧ OW b (l ++ putL n) (m + 9) w' ∧ But (Rw w b) w w' :=
  (wBig_rw b (b + 1) l 0 n w h.wr (Nat.le_trans h.len hm) h0 h1).mono (by
    rintro e x ⟨rfl, hw, hb⟩
    have e1 : wBig n (l, 0) = (l ++ putL n, 0) := by unfold wBig; rw [if_neg (by simp)]
    rw [e1] at hw
    exact ⟨rfl, ⟨hw, sum_le h.len (putL_le n) rfl⟩, hb⟩)
theorem ow_text (b : Nat) (l : List UInt8) (m : Nat) (s : ByteArray) (w : World) (h : OW b l m w) (hm : m + s.size ≤ 140737488355000) :
    Calls Tryz.prog 59 #[.pointer (some ⟨b, 0, none⟩), .string s] w fun e w' => e = .returned (.pointer (some ⟨b, 0, none⟩)) ∧ OW b (l ++ (putL (s.size : Int) ++ s.data.toList)) (m + (9 + s.size)) w' ∧ But (Rw w b) w w' :=
  (wText_rw b (b + 1) l 0 s w h.wr (by have := h.len; omega)).mono (by
    rintro e x ⟨rfl, hw, hb⟩
    have e1 : wText s (l, 0) = (l ++ (putL (s.size : Int) ++ s.data.toList), 0) := by unfold wText; rw [if_neg (by simp), List.append_assoc]
    rw [e1] at hw
    exact ⟨rfl, ⟨hw, sum_le h.len (sum_le (putL_le _) (Nat.le_refl _) rfl) (by simp)⟩, hb⟩)
theorem ow_flag (b : Nat) (l : List UInt8) (m : Nat) (f : Bool) (w : World) (h : OW b l m w) (hm : m ≤ 140737488355000) :
    Calls Tryz.prog 57 #[.pointer (some ⟨b, 0, none⟩), .bool f] w fun e w' => e = .returned (.pointer (some ⟨b, 0, none⟩)) ∧ OW b (l ++ [flagB f]) (m + 1) w' ∧ But (Rw w b) w w' :=
  (wFlag_rw b (b + 1) l 0 f w h.wr (Nat.le_trans h.len hm)).mono (by
    rintro e x ⟨rfl, hw, hb⟩
    have e1 : wFlag f (l, 0) = (l ++ [flagB f], 0) := by unfold wFlag; rw [if_neg (by simp)]
    rw [e1] at hw
    exact ⟨rfl, ⟨hw, sum_le h.len (k := 1) (by simp) rfl⟩, hb⟩)
theorem ow_done (b : Nat) (l : List UInt8) (m : Nat) (w : World) (h : OW b l m w) :
    Calls Tryz.prog 22 #[.pointer (some ⟨b, 0, none⟩)] w fun e w' => e = .returned (.tuple #[.string ⟨l.toArray⟩, .int .i64 0]) ∧ Below w.heap.size w w' :=
  (wDone_ok b (b + 1) l w h.wr).mono (by rintro e x ⟨rfl, rfl⟩; exact ⟨rfl, Below.refl _ _⟩)
/-- The document's own writer. -/
structure OX (b : Nat) (l : List UInt8) (m : Nat) (w : World) : Prop where
  wr : RWr w b l 0
  len : l.length ≤ m
theorem OX.lt (h : OX b l m w) : b < w.heap.size := h.wr.lt
theorem OX.below (h : OX b l m w) (hb : Below w.heap.size w x) : OX b l m x := ⟨h.wr.below hb, h.len⟩
theorem OX.new (h : OX b l m w) (hg : w.grownBy x none) : OX b l m x := h.below (grown_below hg)
theorem OX.eq (h : OX b l m w) (he : l = l') (hm : m ≤ m') : OX b l' m' w := by subst he; exact ⟨h.wr, Nat.le_trans h.len hm⟩
theorem OX.at (h : OX b l m w) (hne : b ≠ N) (hg : w.grownBy x (some N)) : OX b l m x := ⟨h.wr.but (grown_but hg) (fun e1 => hne (Option.some.inj e1).symm), h.len⟩
theorem OX.row {v : Value} (h : OX b l m w) (hne : v.ownBlock ≠ some b) (hg : w.grownBy x v.ownBlock) : OX b l m x := ⟨h.wr.but (grown_but hg) hne, h.len⟩
theorem ox_of (h : Blk w b 60 #[.string ⟨#[]⟩, .int .i64 0]) : OX b [] 0 w := ⟨⟨h.cell rfl, h.cell rfl, h.frozen _, h.frozen _⟩, by simp⟩
theorem ox_num (b : Nat) (l : List UInt8) (m : Nat) (n : Int) (w : World) (h : OX b l m w) (hm : m ≤ 140737488355000) (h0 : 0 ≤ n) (h1 : n ≤ 9223372036854775807) :
    Calls Tryz.prog 23 #[.pointer (some ⟨b, 0, none⟩), .int .i64 n] w fun e w' => e = .returned (.tuple #[]) ∧ OX b (l ++ putL n) (m + 9) w' ∧ w.grownBy w' (some b) :=
  (xNum_any b l 0 n w h.wr (Nat.le_trans h.len hm) h1).mono (by
    rintro e x ⟨rfl, hw, hb⟩
    have e1 : wNum n (l, 0) = (l ++ putL n, 0) := by unfold wNum; rw [if_neg (by simp), if_neg (by omega)]
    rw [e1] at hw
    exact ⟨rfl, ⟨hw, sum_le h.len (putL_le n) rfl⟩, but_grown hb⟩)
theorem ox_big (b : Nat) (l : List UInt8) (m : Nat) (n : Int) (w : World) (h : OX b l m w) (hm : m ≤ 140737488355000) (h0 : 0 ≤ n) (h1 : n < 18446744073709551616) :
    Calls Tryz.prog 65 #[.pointer (some ⟨b, 0, none⟩), .int .u64 n] w fun e w' => e = .returned (.tuple #[]) ∧ OX b (l ++ putL n) (m + 9) w' ∧ w.grownBy w' (some b) :=
  (xBig_any b l 0 n w h.wr (Nat.le_trans h.len hm) h0 h1).mono (by
    rintro e x ⟨rfl, hw, hb⟩
    have e1 : wBig n (l, 0) = (l ++ putL n, 0) := by unfold wBig; rw [if_neg (by simp)]
    rw [e1] at hw
    exact ⟨rfl, ⟨hw, sum_le h.len (putL_le n) rfl⟩, but_grown hb⟩)
theorem ox_text (b : Nat) (l : List UInt8) (m : Nat) (s : ByteArray) (w : World) (h : OX b l m w) (hm : m + s.size ≤ 140737488355000) :
    Calls Tryz.prog 67 #[.pointer (some ⟨b, 0, none⟩), .string s] w fun e w' => e = .returned (.tuple #[]) ∧ OX b (l ++ (putL (s.size : Int) ++ s.data.toList)) (m + (9 + s.size)) w' ∧ w.grownBy w' (some b) :=
  (xText_any b l 0 s w h.wr (by have := h.len; omega)).mono (by
    rintro e x ⟨rfl, hw, hb⟩
    have e1 : wText s (l, 0) = (l ++ (putL (s.size : Int) ++ s.data.toList), 0) := by unfold wText; rw [if_neg (by simp), List.append_assoc]
    rw [e1] at hw
    exact ⟨rfl, ⟨hw, sum_le h.len (sum_le (putL_le _) (Nat.le_refl _) rfl) (by simp)⟩, but_grown hb⟩)
theorem ox_flag (b : Nat) (l : List UInt8) (m : Nat) (f : Bool) (w : World) (h : OX b l m w) (hm : m ≤ 140737488355000) :
    Calls Tryz.prog 66 #[.pointer (some ⟨b, 0, none⟩), .bool f] w fun e w' => e = .returned (.tuple #[]) ∧ OX b (l ++ [flagB f]) (m + 1) w' ∧ w.grownBy w' (some b) :=
  (xFlag_any b l 0 f w h.wr (Nat.le_trans h.len hm)).mono (by
    rintro e x ⟨rfl, hw, hb⟩
    have e1 : wFlag f (l, 0) = (l ++ [flagB f], 0) := by unfold wFlag; rw [if_neg (by simp)]
    rw [e1] at hw
    exact ⟨rfl, ⟨hw, sum_le h.len (k := 1) (by simp) rfl⟩, but_grown hb⟩)
theorem ox_done (b : Nat) (l : List UInt8) (m : Nat) (w : World) (h : OX b l m w) :
    Calls Tryz.prog 26 #[.pointer (some ⟨b, 0, none⟩)] w fun e w' => e = .returned (.tuple #[.string ⟨l.toArray⟩, .int .i64 0]) ∧ Below w.heap.size w w' :=
  (xDone_any b l 0 w h.wr).mono (by rintro e x ⟨rfl, hb⟩; exact ⟨by rw [if_pos rfl], hb⟩)
end

section
variable {w x : World} {b N : Nat} {s : ByteArray} {a e : Int}
/-- The program's reader: it stands at a (if it has no error), its error is e. -/
structure OR (b : Nat) (s : ByteArray) (a e : Int) (w : World) : Prop where
  re : RE w b s a e
  pos : e = 0 → 0 ≤ a ∧ a ≤ s.size
theorem OR.lt (h : OR b s a e w) : b < w.heap.size := h.re.lt
theorem OR.below (h : OR b s a e w) (hb : Below w.heap.size w x) : OR b s a e x := ⟨h.re.below hb, h.pos⟩
theorem OR.new (h : OR b s a e w) (hg : w.grownBy x none) : OR b s a e x := h.below (grown_below hg)
theorem OR.at (h : OR b s a e w) (hne : b ≠ N) (hg : w.grownBy x (some N)) : OR b s a e x := ⟨h.re.but (grown_but hg) (fun e1 => hne (Option.some.inj e1).symm), h.pos⟩
theorem OR.row {v : Value} (h : OR b s a e w) (hne : v.ownBlock ≠ some b) (hg : w.grownBy x v.ownBlock) : OR b s a e x := ⟨h.re.but (grown_but hg) hne, h.pos⟩
theorem OR.nat (h : OR b s a e w) : RE w b s (a.toNat : Int) e ∧ (e = 0 → a.toNat ≤ s.size) := by
  by_cases he : e = 0
  · have := h.pos he
    have e1 : (a.toNat : Int) = a := by omega
    rw [e1]; exact ⟨h.re, fun _ => by omega⟩
  · exact ⟨h.re.weak he, fun h1 => absurd h1 he⟩
theorem or_open (s : ByteArray) (w : World) : Calls Tryz.prog 46 #[.string s] w fun e w' => ∃ b, e = .returned (.pointer (some ⟨b, 0, none⟩)) ∧ b = w.heap.size ∧ OR b s 0 0 w' ∧ Below w.heap.size w w' :=
  (open_any s w).mono (by rintro e x ⟨rfl, hr, hb⟩; exact ⟨_, rfl, rfl, ⟨RE.good hr, fun _ => by omega⟩, hb⟩)
theorem upR_le {s : ByteArray} {a m x : Int} (hm : 0 ≤ m) : 0 ≤ (upR s a m x).1 ∧ (upR s a m x).1 ≤ m := by
  have := getR_range s a
  unfold upR
  split
  · exact ⟨Int.le_refl _, hm⟩
  split
  · exact ⟨Int.le_refl _, hm⟩
  · dsimp only; omega
theorem numR_le {s : ByteArray} {a x m : Int} (hm : 0 ≤ m) : 0 ≤ (numR s a x m).1 ∧ (numR s a x m).1 ≤ m := by
  have := upR_le (s := s) (a := a) (x := 5) hm
  unfold numR
  split
  · exact ⟨Int.le_refl _, hm⟩
  · dsimp only; split
    · exact this
    · exact ⟨Int.le_refl _, hm⟩
theorem textR_le {s : ByteArray} {a x m : Int} (hm : 0 ≤ m) : ((textR s a x m).1.size : Int) ≤ m := by
  have := upR_le (s := s) (a := a) (x := 3) hm
  unfold textR
  split
  · exact hm
  split
  · exact hm
  split
  · exact hm
  · dsimp only
    rw [ByteArray.size_extract]; omega
theorem or_num (b : Nat) (s : ByteArray) (a e m : Int) (w : World) (h : OR b s a e w) (hs : s.size ≤ 9223372036854775807) (h0 : 0 ≤ m) (hm : m ≤ 9223372036854775807) :
    Calls Tryz.prog 47 #[.pointer (some ⟨b, 0, none⟩), .int .i64 m] w fun e1 w' => ∃ n a' e', e1 = .returned (.int .i64 n) ∧ numR s a e m = (n, a', e') ∧ 0 ≤ n ∧ n ≤ m ∧ OR b s a' e' w' ∧ w.grownBy w' (some b) :=
  (rNum_re b s a e m w h.re hs hm).mono (by
    rintro e1 x ⟨rfl, hw, hb⟩
    exact ⟨_, _, _, rfl, rfl, (numR_le h0).1, (numR_le h0).2, ⟨hw, numR_at⟩, but_grown hb⟩)
theorem or_text (b : Nat) (s : ByteArray) (a e m : Int) (w : World) (h : OR b s a e w) (hs : s.size ≤ 9223372036854775807) (h0 : 0 ≤ m) (hm : m ≤ 9223372036854775807) :
    Calls Tryz.prog 99 #[.pointer (some ⟨b, 0, none⟩), .int .i64 m] w fun e1 w' => ∃ t a' e', e1 = .returned (.string t) ∧ textR s a e m = (t, a', e') ∧ (t.size : Int) ≤ m ∧ OR b s a' e' w' ∧ w.grownBy w' (some b) :=
  (rText_re b s a e m w h.re hs hm).mono (by
    rintro e1 x ⟨rfl, hw, hb⟩
    exact ⟨_, _, _, rfl, rfl, textR_le h0, ⟨hw, textR_at⟩, but_grown hb⟩)
theorem or_flag (b : Nat) (s : ByteArray) (a e : Int) (w : World) (h : OR b s a e w) (hs : s.size ≤ 9223372036854775807) :
    Calls Tryz.prog 97 #[.pointer (some ⟨b, 0, none⟩)] w fun e1 w' => ∃ f a' e', e1 = .returned (.bool f) ∧ flagR s a.toNat e = (f, a', e') ∧ OR b s a' e' w' ∧ w.grownBy w' (some b) :=
  (rFlag_re b s a.toNat e w h.nat.1 hs h.nat.2).mono (by
    rintro e1 x ⟨rfl, hw, hb⟩
    exact ⟨_, _, _, rfl, rfl, ⟨hw, flagR_at h.nat.2⟩, but_grown hb⟩)
theorem or_end (b : Nat) (s : ByteArray) (a e : Int) (w : World) (h : OR b s a e w) (hs : s.size ≤ 9223372036854775807) :
    Calls Tryz.prog 50 #[.pointer (some ⟨b, 0, none⟩)] w fun e1 w' => ∃ r, e1 = .returned (.int .i64 r) ∧ endV s a.toNat e = r ∧ Below w.heap.size w w' :=
  (end_re b s a.toNat e w h.nat.1 hs h.nat.2).mono (by
    rintro e1 x ⟨rfl, hb⟩
    exact ⟨_, rfl, rfl, hb⟩)
/-- The document's own reader. -/
structure OXR (b : Nat) (s : ByteArray) (a e : Int) (w : World) : Prop where
  re : XRE w b s a e
  pos : e = 0 → 0 ≤ a ∧ a ≤ s.size
theorem XRE.lt (h : XRE w b s a e) : b < w.heap.size := World.block_lt_of_cell? w _ h.cell
theorem OXR.lt (h : OXR b s a e w) : b < w.heap.size := h.re.lt
theorem OXR.below (h : OXR b s a e w) (hb : Below w.heap.size w x) : OXR b s a e x := ⟨h.re.below hb, h.pos⟩
theorem OXR.new (h : OXR b s a e w) (hg : w.grownBy x none) : OXR b s a e x := h.below (grown_below hg)
theorem OXR.at (h : OXR b s a e w) (hne : b ≠ N) (hg : w.grownBy x (some N)) : OXR b s a e x := ⟨h.re.but (grown_but hg) (fun e1 => hne (Option.some.inj e1).symm), h.pos⟩
theorem OXR.row {v : Value} (h : OXR b s a e w) (hne : v.ownBlock ≠ some b) (hg : w.grownBy x v.ownBlock) : OXR b s a e x := ⟨h.re.but (grown_but hg) hne, h.pos⟩
theorem OXR.nat (h : OXR b s a e w) : XRE w b s (a.toNat : Int) e ∧ (e = 0 → a.toNat ≤ s.size) := by
  by_cases he : e = 0
  · have := h.pos he
    have e1 : (a.toNat : Int) = a := by omega
    rw [e1]; exact ⟨h.re, fun _ => by omega⟩
  · exact ⟨h.re.weak he, fun h1 => absurd h1 he⟩
end
end Go.Proofs.YtcbagajjgbfgdaaGreat

/- Package ops: Check of both. Conditions: none. -/
namespace Go.Proofs.YtcbagajjgbfgdaaGreat
open Go.RowKit Go.PlainAid
set_option linter.unusedVariables false


abbrev OpT := ByteArray × ByteArray × Bool
def opE (o : OpT) : List Value := [.string o.1, .string o.2.1, .bool o.2.2]
theorem opE_len (o : OpT) : (opE o).length = 3 := rfl
theorem opE_one (o : OpT) : ∀ u ∈ opE o, u.oneCell' = true := by intro u hu; simp [opE] at hu; rcases hu with rfl | rfl | rfl <;> rfl
theorem eq_op (a b d e : ByteArray) (c f : Bool) (w : World) : (binOp .eql 134 (.agg #[.string a, .string b, .bool c]) (.agg #[.string d, .string e, .bool f])).run Tryz.prog w = .ok (.bool (a.toList == d.toList && b.toList == e.toList && c == f)) w := by
  have u := Tryz.underlying9
  have u' := Tryz.underlying4
  have hS : Tryz.prog.underlying 134 = some (.struct (Tryz.prog.fieldsOf 134)) := by kernel_rfl
  have hp : Tryz.prog.stoodInHeld 134 = false := by kernel_rfl
  have hf : (Tryz.prog.fieldsOf 134).toList.map (fun f => (f.offset, f.type)) = [(0, 9), (1, 9), (2, 4)] := by kernel_rfl
  rw [run_eql_struct, show (10000 : Nat) = 9999 + 1 from rfl, run_equalIn_agg w 9999 134 _ _ hS hp]
  simp only [Program.fieldsOf, Tryz.underlying134]
  go_simp
  by_cases h1 : a.toList = d.toList <;> by_cases h2 : b.toList = e.toList <;> by_cases h3 : c = f <;> simp [h1, h2, h3]
theorem bl_flip : ∀ (x y : List UInt8), (Op.bytesLess x y || x == y) = !Op.bytesLess y x
  | [], [] => rfl
  | [], _ :: _ => rfl
  | _ :: _, [] => rfl
  | a :: x, b :: y => by
    have ih := bl_flip x y
    show ((decide (a < b) || (a == b && Op.bytesLess x y)) || (a == b && x == y)) = !(decide (b < a) || (b == a && Op.bytesLess y x))
    rcases Nat.lt_trichotomy a.toNat b.toNat with h | h | h
    · have h1 : a < b := h
      have h2 : ¬ b < a := fun q => by have : b.toNat < a.toNat := q; omega
      have h3 : ¬ b = a := fun q => by subst q; omega
      simp [h1, h2, h3]
    · have e : a = b := UInt8.toNat.inj h
      subst e
      have h2 : ¬ a < a := fun q => by have : a.toNat < a.toNat := q; omega
      simp [h2]; simpa using ih
    · have h1 : ¬ a < b := fun q => by have : a.toNat < b.toNat := q; omega
      have h2 : b < a := h
      have h3 : ¬ a = b := fun q => by subst q; omega
      simp [h1, h2, h3]
/-- What a key's check answers; an operation's; those of all, each key above the one ahead of it. -/
def keyC (k : ByteArray) : Int := if ((k.size : Nat) : Int) < 1 ∨ ((k.size : Nat) : Int) > 8 then 10 else 0
def delV (o : OpT) : Bool := o.2.2 && !(o.2.1.toList == (⟨#[]⟩ : ByteArray).toList)
theorem delV_t {o : OpT} {b : Bool} (h : o.2.2 = true) (h2 : (!(o.2.1.toList == (⟨#[]⟩ : ByteArray).toList)) = b) : delV o = b := by unfold delV; rw [h, h2]; rfl
theorem delV_f {o : OpT} (h : o.2.2 = false) : delV o = false := by unfold delV; rw [h]; rfl
def chkOp (o : OpT) : Int := if keyC o.1 ≠ 0 then keyC o.1 else if ((o.2.1.size : Nat) : Int) > 8 then 3 else if delV o = true then 4 else 0
def keyUp (p : Option ByteArray) (k : ByteArray) : Bool := match p with | some q => Op.bytesLess q.toList k.toList | none => true
def chkL : Option ByteArray → List OpT → Int
  | _, [] => 0
  | p, o :: r => if chkOp o ≠ 0 then chkOp o else if keyUp p o.1 = true then chkL (some o.1) r else 18
def prevK (l : List OpT) (i : Nat) : Option ByteArray := if i = 0 then none else (l[i - 1]?).map (·.1)
def chkB (c r : Int) (l : List OpT) : Int := if c < 0 ∨ c ≥ 3 then 1 else if r < 1 ∨ r > 1073741824 then 5 else if ((l.length : Nat) : Int) > 4 then 6 else chkL none l
theorem prevK_succ {l : List OpT} {i : Nat} {y : OpT} (h : l[i]? = some y) : prevK l (i + 1) = some y.1 := by simp [prevK, h]
theorem prevK_pos {l : List OpT} {i j : Nat} {y : OpT} (hj : j = i - 1) (h0 : 0 < i) (h : l[j]? = some y) : prevK l i = some y.1 := by
  subst hj; simp [prevK, h]; omega
theorem dropO_at {l : List OpT} {i : Nat} {y : OpT} (h : l[i]? = some y) : l.drop i = y :: l.drop (i + 1) := by
  obtain ⟨hi, rfl⟩ := List.getElem?_eq_some_iff.1 h
  exact List.drop_eq_getElem_cons hi
theorem takeO_at {α : Type} {l : List α} {i : Nat} {y : α} (h : l[i]? = some y) : l.take (i + 1) = l.take i ++ [y] := by
  rw [List.take_add_one, h]; rfl
theorem chkL_bad {l : List OpT} {i : Nat} {y : OpT} {z : Int} (h : chkL (prevK l i) (l.drop i) = z) (hy : l[i]? = some y) (hc : chkOp y ≠ 0) : chkOp y = z := by
  rw [dropO_at hy] at h; unfold chkL at h; rwa [if_pos hc] at h
theorem chkL_step {l : List OpT} {i : Nat} {y : OpT} {z : Int} (h : chkL (prevK l i) (l.drop i) = z) (hy : l[i]? = some y) (hc : chkOp y = 0) (hu : keyUp (prevK l i) y.1 = true) : chkL (prevK l (i + 1)) (l.drop (i + 1)) = z := by
  rw [dropO_at hy] at h; unfold chkL at h; rw [if_neg (by simp [hc]), if_pos hu] at h
  rw [prevK_succ hy]; exact h
theorem chkL_ord {l : List OpT} {i : Nat} {y : OpT} {z : Int} (h : chkL (prevK l i) (l.drop i) = z) (hy : l[i]? = some y) (hc : chkOp y = 0) (hu : keyUp (prevK l i) y.1 = false) : 18 = z := by
  rw [dropO_at hy] at h; unfold chkL at h; rwa [if_neg (by simp [hc]), if_neg (by simp [hu])] at h
theorem chkL_end {l : List OpT} {i : Nat} {z : Int} (h : chkL (prevK l i) (l.drop i) = z) (hi : l.length ≤ i) : 0 = z := by
  rw [List.drop_eq_nil_of_le hi] at h; simpa [chkL] using h
theorem keyUp_at {l : List OpT} {i j : Nat} {y y' : OpT} {b : Bool} (hj : j = i - 1) (h0 : 0 < i) (h : l[j]? = some y') (hb : Op.bytesLess y'.1.toList y.1.toList = b) : keyUp (prevK l i) y.1 = b := by rw [prevK_pos hj h0 h]; exact hb
theorem keyUp_flip {l : List OpT} {i j : Nat} {y y' : OpT} {b : Bool} (hj : j = i - 1) (h0 : 0 < i) (h : l[j]? = some y') (hb : (Op.bytesLess y.1.toList y'.1.toList || y.1.toList == y'.1.toList) = b) : keyUp (prevK l i) y.1 = !b := by
  rw [bl_flip] at hb; rw [prevK_pos hj h0 h]; rw [← hb]; simp [keyUp]
theorem keyUp_0 {l : List OpT} {i : Nat} {k : ByteArray} (h0 : ¬ (0 : Int) < i) : keyUp (prevK l i) k = true := by
  obtain rfl : i = 0 := by omega
  rfl
theorem chkB_a {c r z : Int} {l : List OpT} (hz : chkB c r l = z) (h : c < 0 ∨ c ≥ 3) : 1 = z := by unfold chkB at hz; rwa [if_pos h] at hz
theorem chkB_b {c r z : Int} {l : List OpT} (hz : chkB c r l = z) (h : ¬ (c < 0 ∨ c ≥ 3)) (h1 : r < 1 ∨ r > 1073741824) : 5 = z := by unfold chkB at hz; rwa [if_neg h, if_pos h1] at hz
theorem chkB_c {c r z : Int} {l : List OpT} (hz : chkB c r l = z) (h : ¬ (c < 0 ∨ c ≥ 3)) (h1 : ¬ (r < 1 ∨ r > 1073741824)) (h2 : ((l.length : Nat) : Int) > 4) : 6 = z := by unfold chkB at hz; rwa [if_neg h, if_neg h1, if_pos h2] at hz
theorem chkB_d {c r z : Int} {l : List OpT} (hz : chkB c r l = z) (h : ¬ (c < 0 ∨ c ≥ 3)) (h1 : ¬ (r < 1 ∨ r > 1073741824)) (h2 : ¬ ((l.length : Nat) : Int) > 4) : chkL (prevK l 0) (l.drop 0) = z := by unfold chkB at hz; rwa [if_neg h, if_neg h1, if_neg h2] at hz
theorem chkOp_a {o : OpT} (h : keyC o.1 ≠ 0) : chkOp o = keyC o.1 := by unfold chkOp; rw [if_pos h]
theorem chkOp_b {o : OpT} (h : ¬ keyC o.1 ≠ 0) (h1 : ((o.2.1.size : Nat) : Int) > 8) : chkOp o = 3 := by unfold chkOp; rw [if_neg h, if_pos h1]
theorem chkOp_c {o : OpT} (h : ¬ keyC o.1 ≠ 0) (h1 : ¬ ((o.2.1.size : Nat) : Int) > 8) (h2 : delV o = true) : chkOp o = 4 := by unfold chkOp; rw [if_neg h, if_neg h1, if_pos h2]
theorem chkOp_d {o : OpT} (h : ¬ keyC o.1 ≠ 0) (h1 : ¬ ((o.2.1.size : Nat) : Int) > 8) (h2 : delV o = false) : chkOp o = 0 := by unfold chkOp; rw [if_neg h, if_neg h1, if_neg (by simp [h2])]
theorem keyC_ten {k : ByteArray} (h : keyC k ≠ 0) : keyC k = 10 := by unfold keyC at h ⊢; split <;> simp_all
theorem keyC_ok {k : ByteArray} (h : keyC k = 0) : 1 ≤ k.size ∧ k.size ≤ 8 := by unfold keyC at h; split at h <;> omega
theorem chkOp_ok {o : OpT} (h : chkOp o = 0) : (1 ≤ o.1.size ∧ o.1.size ≤ 8) ∧ o.2.1.size ≤ 8 ∧ delV o = false := by
  unfold chkOp at h
  split at h
  · omega
  rename_i h1
  split at h
  · omega
  rename_i h2
  split at h
  · omega
  rename_i h3
  exact ⟨keyC_ok (by omega), by omega, by simpa using h3⟩
theorem chkL_all : ∀ (p : Option ByteArray) (l : List OpT), chkL p l = 0 → ∀ z ∈ l, chkOp z = 0
  | _, [], _, _, h => by cases h
  | p, o :: r, h, z, hz => by
    unfold chkL at h
    by_cases h1 : chkOp o ≠ 0
    · rw [if_pos h1] at h; exact absurd h h1
    · rw [if_neg h1] at h
      by_cases h2 : keyUp p o.1 = true
      · rw [if_pos h2] at h
        rcases List.mem_cons.1 hz with rfl | hz
        · omega
        · exact chkL_all _ r h z hz
      · rw [if_neg h2] at h; omega
theorem chkB_ok {c r : Int} {l : List OpT} (h : chkB c r l = 0) : (0 ≤ c ∧ c < 3) ∧ (1 ≤ r ∧ r ≤ 1073741824) ∧ l.length ≤ 4 ∧ chkL none l = 0 := by
  unfold chkB at h
  split at h
  · omega
  split at h
  · omega
  split at h
  · omega
  exact ⟨by omega, by omega, by omega, h⟩
def OpOk (z : OpT) : Prop := (1 ≤ z.1.size ∧ z.1.size ≤ 8) ∧ z.2.1.size ≤ 8 ∧ delV z = false
theorem chkB_all {c r : Int} {l : List OpT} (h : chkB c r l = 0) : ∀ z ∈ l, OpOk z := fun z hz => chkOp_ok (chkL_all _ l (chkB_ok h).2.2.2 z hz)

set_option maxRecDepth 100000 in
theorem pKey_any (k : ByteArray) (w : World)  :
    Calls Tryz.prog 119 #[.string k] w fun e w' => e = .returned (.int .i64 (keyC k)) ∧ Below w.heap.size w w' := by
 have hB0 := Below.refl w.heap.size w;refine co_enter (n := 11) Tryz.func119 rfl rfl rfl [(0, .string k)] rfl (fun a s => ?_);refine q2 ?_;refine pk0 (v := .int .i64 0) s rfl fun _ s => q6 ?_;refine pk0 (v := .string k) s rfl fun _ s => ?_;refine pk (v := .int .i64 (k.size : Int)) s rfl (rn_lenStr rfl rfl Tryz.underlying9) fun _ s => ?_;refine pk0 (v := .bool (decide ((k.size : Int) < 1))) s rfl fun _ s => ?_;refine pk0 (v := .bool (decide ((k.size : Int) < 1))) s rfl fun _ s => ?_;cases hc6 : (decide ((k.size : Int) < 1))
 ·
  rw [hc6] at s;have hp7 : ¬ ((k.size : Int) < 1) := of_decide_eq_false hc6;refine pk0 (v := .string k) s rfl fun _ s => ?_;refine pk (v := .int .i64 (k.size : Int)) s rfl (rn_lenStr rfl rfl Tryz.underlying9) fun _ s => ?_;refine pk0 (v := .bool (decide ((k.size : Int) > 8))) s rfl fun _ s => ?_;refine pk0 (v := .bool (decide ((k.size : Int) > 8))) s rfl fun _ s => q1 ?_;cases hc12 : (decide ((k.size : Int) > 8))
  ·
   rw [hc12] at s;have hp13 : ¬ ((k.size : Int) > 8) := of_decide_eq_false hc12;refine co_false s rfl <| q7 ?_;refine pk0 (v := .int .i64 0) s rfl fun _ s => q4 ?_;refine co_ret1 s rfl rfl ?_;exact ⟨ret_int (by unfold keyC; first | rw [if_pos (by omega)] | rw [if_neg (by omega)]), hB0⟩
  rw [hc12] at s;have hp15 : (k.size : Int) > 8 := of_decide_eq_true hc12;refine co_true s rfl <| q2 ?_;refine pk0 (v := .int .i64 10) s rfl fun _ s => q5 ?_;refine co_ret1 s rfl rfl ?_;exact ⟨ret_int (by unfold keyC; first | rw [if_pos (by omega)] | rw [if_neg (by omega)]), hB0⟩
 rw [hc6] at s;have hp17 : (k.size : Int) < 1 := of_decide_eq_true hc6;refine psk s rfl fun _ s => ?_;refine psk s rfl fun _ s => ?_;refine psk s rfl fun _ s => ?_;refine pk0 (v := .bool true) s rfl fun _ s => q1 ?_;refine co_true s rfl <| q2 ?_;refine pk0 (v := .int .i64 10) s rfl fun _ s => q5 ?_;refine co_ret1 s rfl rfl ?_;exact ⟨ret_int (by unfold keyC; first | rw [if_pos (by omega)] | rw [if_neg (by omega)]), hB0⟩
set_option maxRecDepth 100000 in
theorem rKey_any (k : ByteArray) (w : World)  :
    Calls Tryz.prog 120 #[.string k] w fun e w' => e = .returned (.int .i64 (keyC k)) ∧ Below w.heap.size w w' := by
 have hB0 := Below.refl w.heap.size w;refine co_enter (n := 11) Tryz.func120 rfl rfl rfl [(0, .string k)] rfl (fun a s => ?_);refine q2 ?_;refine pk0 (v := .int .i64 0) s rfl fun _ s => q6 ?_;refine pk0 (v := .string k) s rfl fun _ s => ?_;refine pk (v := .int .i64 (k.size : Int)) s rfl (rn_lenStr rfl rfl Tryz.underlying9) fun _ s => ?_;refine pk0 (v := .bool (decide ((k.size : Int) < 1))) s rfl fun _ s => ?_;refine pk0 (v := .bool (decide ((k.size : Int) < 1))) s rfl fun _ s => ?_;cases hc6 : (decide ((k.size : Int) < 1))
 ·
  rw [hc6] at s;have hp7 : ¬ ((k.size : Int) < 1) := of_decide_eq_false hc6;refine pk0 (v := .string k) s rfl fun _ s => ?_;refine pk (v := .int .i64 (k.size : Int)) s rfl (rn_lenStr rfl rfl Tryz.underlying9) fun _ s => ?_;refine pk0 (v := .bool (decide ((k.size : Int) > 8))) s rfl fun _ s => ?_;refine pk0 (v := .bool (decide ((k.size : Int) > 8))) s rfl fun _ s => q1 ?_;cases hc12 : (decide ((k.size : Int) > 8))
  ·
   rw [hc12] at s;have hp13 : ¬ ((k.size : Int) > 8) := of_decide_eq_false hc12;refine co_false s rfl <| q7 ?_;refine pk0 (v := .int .i64 0) s rfl fun _ s => q4 ?_;refine co_ret1 s rfl rfl ?_;exact ⟨ret_int (by unfold keyC; first | rw [if_pos (by omega)] | rw [if_neg (by omega)]), hB0⟩
  rw [hc12] at s;have hp15 : (k.size : Int) > 8 := of_decide_eq_true hc12;refine co_true s rfl <| q2 ?_;refine pk0 (v := .int .i64 10) s rfl fun _ s => q5 ?_;refine co_ret1 s rfl rfl ?_;exact ⟨ret_int (by unfold keyC; first | rw [if_pos (by omega)] | rw [if_neg (by omega)]), hB0⟩
 rw [hc6] at s;have hp17 : (k.size : Int) < 1 := of_decide_eq_true hc6;refine psk s rfl fun _ s => ?_;refine psk s rfl fun _ s => ?_;refine psk s rfl fun _ s => ?_;refine pk0 (v := .bool true) s rfl fun _ s => q1 ?_;refine co_true s rfl <| q2 ?_;refine pk0 (v := .int .i64 10) s rfl fun _ s => q5 ?_;refine co_ret1 s rfl rfl ?_;exact ⟨ret_int (by unfold keyC; first | rw [if_pos (by omega)] | rw [if_neg (by omega)]), hB0⟩
set_option maxRecDepth 100000 in
theorem chkOp_any (o : OpT) (w : World)  :
    Calls Tryz.prog 118 #[.agg #[.string o.1, .string o.2.1, .bool o.2.2]] w fun e w' => e = .returned (.int .i64 (chkOp o)) ∧ Below w.heap.size w w' := by
 have hB0 := Below.refl w.heap.size w;refine co_enter (n := 21) Tryz.func118 rfl rfl rfl [(0, .agg #[.string o.1, .string o.2.1, .bool o.2.2])] rfl (fun a s => ?_);refine q2 ?_;refine pw s rfl (op_new (v := fun N => pt N 0) (T := 134) (cs := #[.string o.1, .string o.2.1, .bool o.2.2]) (by kernel_rfl) (by kernel_rfl) (by kernel_rfl)) ?_;rintro _ w2 a1 ⟨N3, rfl, hN6, hz7, hk5, hg4⟩ s;have hz8 := hg4.size
 try dsimp only at s
 refine pk0 (v := .int .i64 0) s rfl fun _ s => q6 ?_;refine pk0 (v := pt N3 0) s rfl fun _ s => ?_;refine pk (v := .string o.1) s rfl (rn_load1 rfl rfl Tryz.isAgg9 (hk5.cell rfl)) fun _ s => ?_;refine pw s rfl (op_call (args := #[.string o.1]) (R := fun res xw => res = .int .i64 (keyC o.1) ∧ Below w2.heap.size w2 xw) rfl rfl rfl (by kernel_rfl) (by kernel_rfl) (Tryz.call119 _ _) (pKey_any o.1 w2 ) (by rintro e x ⟨rfl, hb14⟩; exact ⟨_, rfl, ⟨rfl, hb14⟩⟩)) ?_;rintro _ w13 a12 ⟨rfl, hb14⟩ s;have hz15 := hb14.size;refine pk0 (v := .int .i64 (keyC o.1)) s rfl fun _ s => q3 ?_;refine pk0 (v := .int .i64 (keyC o.1)) s rfl fun _ s => ?_;refine pk0 (v := .bool (keyC o.1 != 0)) s rfl fun _ s => q1 ?_;have hB20 := hb_new hB0 hg4;have hB21 := hb_call hB20 hb14;cases hc19 : (keyC o.1 != 0)
 ·
  rw [hc19] at s;have hp22 : ¬ (keyC o.1 ≠ 0) := by first | simpa using hc19 | simpa [and_assoc] using hc19
  refine co_false s rfl <| q8 ?_;refine pk0 (v := pt N3 1) s rfl fun _ s => ?_;have hk24 := hk5.below hb14;refine pk (v := .string o.2.1) s rfl (rn_load1 rfl rfl Tryz.isAgg9 (hk24.cell rfl)) fun _ s => ?_;refine pk (v := .int .i64 (o.2.1.size : Int)) s rfl (rn_lenStr rfl rfl Tryz.underlying9) fun _ s => ?_;refine pk0 (v := .bool (decide ((o.2.1.size : Int) > 8))) s rfl fun _ s => q1 ?_;cases hc28 : (decide ((o.2.1.size : Int) > 8))
  ·
   rw [hc28] at s;have hp29 : ¬ ((o.2.1.size : Int) > 8) := of_decide_eq_false hc28;refine co_false s rfl <| q8 ?_;refine pk0 (v := pt N3 2) s rfl fun _ s => ?_;refine pk (v := .bool o.2.2) s rfl (rn_load1 rfl rfl Tryz.isAgg4 (hk24.cell rfl)) fun _ s => ?_;refine pk0 (v := .bool o.2.2) s rfl fun _ s => ?_;cases hc33 : (o.2.2)
   ·
    rw [hc33] at s;refine psk s rfl fun _ s => ?_;refine psk s rfl fun _ s => ?_;refine psk s rfl fun _ s => ?_;refine pk0 (v := .bool false) s rfl fun _ s => q1 ?_;refine co_false s rfl <| q7 ?_;refine pk0 (v := .int .i64 0) s rfl fun _ s => q4 ?_;refine co_ret1 s rfl rfl ?_;exact ⟨ret_int (by first | exact (chkOp_a (by assumption)).symm | exact (chkOp_b (by assumption) (by assumption)).symm | exact (chkOp_c (by assumption) (by assumption) (by first | exact delV_t (by assumption) (by assumption) | exact delV_f (by assumption))).symm | exact (chkOp_d (by assumption) (by assumption) (by first | exact delV_t (by assumption) (by assumption) | exact delV_f (by assumption))).symm), hB21⟩
   rw [hc33] at s;refine pk0 (v := pt N3 1) s rfl fun _ s => ?_;refine pk (v := .string o.2.1) s rfl (rn_load1 rfl rfl Tryz.isAgg9 (hk24.cell rfl)) fun _ s => ?_;refine pk0 (v := .bool (!(o.2.1.toList == (⟨#[]⟩ : ByteArray).toList))) s rfl fun _ s => ?_;refine pk0 (v := .bool (!(o.2.1.toList == (⟨#[]⟩ : ByteArray).toList))) s rfl fun _ s => q1 ?_;cases hc43 : (!(o.2.1.toList == (⟨#[]⟩ : ByteArray).toList))
   ·
    rw [hc43] at s;refine co_false s rfl <| q7 ?_;refine pk0 (v := .int .i64 0) s rfl fun _ s => q4 ?_;refine co_ret1 s rfl rfl ?_;exact ⟨ret_int (by first | exact (chkOp_a (by assumption)).symm | exact (chkOp_b (by assumption) (by assumption)).symm | exact (chkOp_c (by assumption) (by assumption) (by first | exact delV_t (by assumption) (by assumption) | exact delV_f (by assumption))).symm | exact (chkOp_d (by assumption) (by assumption) (by first | exact delV_t (by assumption) (by assumption) | exact delV_f (by assumption))).symm), hB21⟩
   rw [hc43] at s;refine co_true s rfl <| q2 ?_;refine pk0 (v := .int .i64 4) s rfl fun _ s => q5 ?_;refine co_ret1 s rfl rfl ?_;exact ⟨ret_int (by first | exact (chkOp_a (by assumption)).symm | exact (chkOp_b (by assumption) (by assumption)).symm | exact (chkOp_c (by assumption) (by assumption) (by first | exact delV_t (by assumption) (by assumption) | exact delV_f (by assumption))).symm | exact (chkOp_d (by assumption) (by assumption) (by first | exact delV_t (by assumption) (by assumption) | exact delV_f (by assumption))).symm), hB21⟩
  rw [hc28] at s;have hp46 : (o.2.1.size : Int) > 8 := of_decide_eq_true hc28;refine co_true s rfl <| q2 ?_;refine pk0 (v := .int .i64 3) s rfl fun _ s => q5 ?_;refine co_ret1 s rfl rfl ?_;exact ⟨ret_int (by first | exact (chkOp_a (by assumption)).symm | exact (chkOp_b (by assumption) (by assumption)).symm | exact (chkOp_c (by assumption) (by assumption) (by first | exact delV_t (by assumption) (by assumption) | exact delV_f (by assumption))).symm | exact (chkOp_d (by assumption) (by assumption) (by first | exact delV_t (by assumption) (by assumption) | exact delV_f (by assumption))).symm), hB21⟩
 rw [hc19] at s;have hp48 : keyC o.1 ≠ 0 := by first | simpa using hc19 | simpa [and_assoc] using hc19
 refine co_true s rfl <| q2 ?_;refine pk0 (v := .int .i64 (keyC o.1)) s rfl fun _ s => ?_;refine pk0 (v := .int .i64 (keyC o.1)) s rfl fun _ s => q5 ?_;refine co_ret1 s rfl rfl ?_;exact ⟨ret_int (by first | exact (chkOp_a (by assumption)).symm | exact (chkOp_b (by assumption) (by assumption)).symm | exact (chkOp_c (by assumption) (by assumption) (by first | exact delV_t (by assumption) (by assumption) | exact delV_f (by assumption))).symm | exact (chkOp_d (by assumption) (by assumption) (by first | exact delV_t (by assumption) (by assumption) | exact delV_f (by assumption))).symm), hB21⟩
set_option maxRecDepth 100000 in
theorem opsCheck_any (c : Int) (r : Int) (v : Value) (l : List OpT) (w : World) (hs : SliceOf opE 3 w v l) :
    Calls Tryz.prog 72 #[.agg #[.int .i64 c, .int .i64 r, v]] w fun e w' => e = .returned (.int .i64 (chkB c r l)) ∧ Below w.heap.size w w' := by
 have hB0 := Below.refl w.heap.size w;have hl_hs := sl_len hs;refine co_enter (n := 54) Tryz.func72 rfl rfl rfl [(0, .agg #[.int .i64 c, .int .i64 r, v])] rfl (fun a s => ?_);refine q2 ?_;refine pw s rfl (op_new (v := fun N => pt N 0) (T := 29) (cs := #[.int .i64 c, .int .i64 r, v]) (by kernel_rfl) (by kernel_rfl) (by kernel_rfl)) ?_;rintro _ w2 a1 ⟨N3, rfl, hN6, hz7, hk5, hg4⟩ s;have hz8 := hg4.size
 try dsimp only at s
 refine pk0 (v := .int .i64 0) s rfl fun _ s => q6 ?_;refine pk0 (v := pt N3 0) s rfl fun _ s => ?_;refine pk (v := .int .i64 c) s rfl (rn_load1 rfl rfl Tryz.isAgg3 (hk5.cell rfl)) fun _ s => ?_;refine pk0 (v := .bool (decide (c < 0))) s rfl fun _ s => ?_;refine pk0 (v := .bool (decide (c < 0))) s rfl fun _ s => ?_;have hB15 := hb_new hB0 hg4;cases hc14 : (decide (c < 0))
 ·
  rw [hc14] at s;have hp16 : ¬ (c < 0) := of_decide_eq_false hc14;refine pk0 (v := pt N3 0) s rfl fun _ s => ?_;refine pk (v := .int .i64 c) s rfl (rn_load1 rfl rfl Tryz.isAgg3 (hk5.cell rfl)) fun _ s => ?_;refine pk0 (v := .bool (decide (c ≥ 3))) s rfl fun _ s => ?_;refine pk0 (v := .bool (decide (c ≥ 3))) s rfl fun _ s => q1 ?_;cases hc21 : (decide (c ≥ 3))
  ·
   rw [hc21] at s;have hp22 : ¬ (c ≥ 3) := of_decide_eq_false hc21;refine co_false s rfl <| q8 ?_;refine pk0 (v := pt N3 1) s rfl fun _ s => ?_;refine pk (v := .int .i64 r) s rfl (rn_load1 rfl rfl Tryz.isAgg3 (hk5.cell rfl)) fun _ s => ?_;refine pk0 (v := .bool (decide (r < 1))) s rfl fun _ s => ?_;refine pk0 (v := .bool (decide (r < 1))) s rfl fun _ s => ?_;cases hc27 : (decide (r < 1))
   ·
    rw [hc27] at s;have hp28 : ¬ (r < 1) := of_decide_eq_false hc27;refine pk0 (v := pt N3 1) s rfl fun _ s => ?_;refine pk (v := .int .i64 r) s rfl (rn_load1 rfl rfl Tryz.isAgg3 (hk5.cell rfl)) fun _ s => ?_;refine pk0 (v := .bool (decide (r > 1073741824))) s rfl fun _ s => ?_;refine pk0 (v := .bool (decide (r > 1073741824))) s rfl fun _ s => q1 ?_;cases hc33 : (decide (r > 1073741824))
    ·
     rw [hc33] at s;have hp34 : ¬ (r > 1073741824) := of_decide_eq_false hc33;refine co_false s rfl <| q8 ?_;refine pk0 (v := pt N3 2) s rfl fun _ s => ?_;refine pk (v := v) s rfl (rn_load1 rfl rfl Tryz.isAgg27 (hk5.cell rfl)) fun _ s => ?_;refine pk (v := .int .i64 (l.length : Int)) s rfl (rn_len rfl rfl Tryz.underlying27 (hs.below hB15)) fun _ s => ?_;refine pk0 (v := .bool (decide ((l.length : Int) > 4))) s rfl fun _ s => q1 ?_;cases hc39 : (decide ((l.length : Int) > 4))
     ·
      rw [hc39] at s;have hp40 : ¬ ((l.length : Int) > 4) := of_decide_eq_false hc39;refine co_false s rfl <| q8 ?_;refine pk0 (v := pt N3 2) s rfl fun _ s => ?_;refine pk (v := v) s rfl (rn_load1 rfl rfl Tryz.isAgg27 (hk5.cell rfl)) fun _ s => ?_;refine pk (v := .int .i64 (l.length : Int)) s rfl (rn_len rfl rfl Tryz.underlying27 (hs.below hB15)) fun _ s => ?_;refine pk0 (v := .int .i64 0) s rfl fun _ s => q1 <| wp_block ?_;have s : Slots 54 [(1, pt N3 0), (2, .int .i64 0), (27, v), (28, .int .i64 (l.length : Int)), (29, .int .i64 0)] _ := s.sub ⟨rfl, rfl, rfl, rfl, rfl, trivial⟩;refine co_loop (fun mm a x => ∃ (i : Nat), Slots 54 [(1, pt N3 0), (2, .int .i64 0), (27, v), (28, .int .i64 (l.length : Int)), (29, .int .i64 (i : Int))] a ∧ mm = l.length - i ∧ (i ≤ l.length) ∧ (chkL (prevK l i) (l.drop i) = chkB c r l) ∧ Below w.heap.size w x ∧ Blk x N3 29 #[.int .i64 c, .int .i64 r, v]) (l.length - 0) ?_ ?_
      · exact ⟨0, s.sub ⟨rfl, rfl, rfl, rfl, (slot_eq rfl (congrArg (Value.int .i64) (by first | rfl | omega))), trivial⟩, rfl, by omega, by first | exact chkB_d rfl (by omega) (by omega) (by omega) | exact hL', hB15, hk5⟩
      · rintro k46 a47 w48 ⟨i, s, rfl, hi49, hi50, hB51, hk52⟩
        have hz53 := hB51.size;have hl54 := hk52.lt;have hL : chkL (prevK l i) (l.drop i) = chkB c r l := by assumption
        refine q2 ?_;refine pk0 (v := .bool (decide ((i : Int) < (l.length : Int)))) s rfl fun _ s => q1 <| co_seq ?_;cases hc56 : (decide ((i : Int) < (l.length : Int)))
        ·
         rw [hc56] at s;have hp57 : ¬ ((i : Int) < (l.length : Int)) := of_decide_eq_false hc56;refine co_false s rfl <| wp_exit <| co_thenX <| co_thenX <| qx <| q2 ?_;refine pk0 (v := .int .i64 0) s rfl fun _ s => q4 ?_;refine co_ret1 s rfl rfl ?_;exact ⟨ret_int (chkL_end (i := i) hL (by omega)), hB51⟩
        rw [hc56] at s;have hp59 : (i : Int) < (l.length : Int) := of_decide_eq_true hc56;refine co_true s rfl <| q0 <| co_seq <| wp_block <| q2 ?_;refine pk0 (v := .int .i64 (i : Int)) s rfl fun _ s => ?_;obtain ⟨y61, hy61⟩ : ∃ z, l[i]? = some z := ⟨_, List.getElem?_eq_getElem (by first | omega | (simp; done) | (simp; omega))⟩;refine pk (v := pt (blkOf v) (offOf v + i * 3)) s rfl (rn_index rfl rfl rfl Tryz.underlying27 Tryz.sizeOf134 (hs.below hB51) (by omega) (by first | omega | (simp; done) | (simp; omega))) fun _ s => ?_;refine pk (v := .agg #[.string y61.1, .string y61.2.1, .bool y61.2.2]) s rfl (rn_loadN rfl rfl Tryz.underlying134 rfl (by kernel_rfl) (sl_at (hs.below hB51) hy61)) fun _ s => ?_;refine pw s rfl (op_new (v := fun N => pt N 0) (T := 134) (cs := #[.string (⟨#[]⟩), .string (⟨#[]⟩), .bool false]) (by kernel_rfl) (by kernel_rfl) (by kernel_rfl)) ?_;rintro _ w65 a64 ⟨N66, rfl, hN69, hz70, hk68, hg67⟩ s;have hz71 := hg67.size
        try dsimp only at s
        refine pk0 (v := .int .i64 (i : Int)) s rfl fun _ s => ?_;refine pwD s rfl (op_storeN rfl rfl rfl (by kernel_rfl) (by kernel_rfl) hk68 rfl) ?_;rintro _ w74 a73 ⟨hk75, hz76, hg77⟩ s;have hk75' : Blk w74 N66 134 #[.string y61.1, .string y61.2.1, .bool y61.2.2] := hk75;have hz78 := hg77.size;refine q6 ?_;refine pk (v := .agg #[.string y61.1, .string y61.2.1, .bool y61.2.2]) s rfl (rn_loadN rfl rfl Tryz.underlying134 rfl (by kernel_rfl) hk75'.all) fun _ s => ?_;refine pw s rfl (op_call (args := #[.agg #[.string y61.1, .string y61.2.1, .bool y61.2.2]]) (R := fun res xw => res = .int .i64 (chkOp y61) ∧ Below w74.heap.size w74 xw) rfl rfl rfl (by kernel_rfl) (by kernel_rfl) (Tryz.call118 _ _) (chkOp_any y61 w74 ) (by rintro e x ⟨rfl, hb82⟩; exact ⟨_, rfl, ⟨rfl, hb82⟩⟩)) ?_;rintro _ w81 a80 ⟨rfl, hb82⟩ s;have hz83 := hb82.size;refine pk0 (v := .int .i64 (chkOp y61)) s rfl fun _ s => q3 ?_;refine pk0 (v := .int .i64 (chkOp y61)) s rfl fun _ s => ?_;refine pk0 (v := .bool (chkOp y61 != 0)) s rfl fun _ s => q1 ?_;have hB88 := hb_new hB51 hg67;have hB89 := hb_at hB88 hg77 (by omega);have hB90 := hb_call hB89 hb82;have hk91 := hk52.kept hg67 (by simp);have hk92 := hk91.kept hg77 (by simp; omega);have hk93 := hk92.below hb82;cases hc87 : (chkOp y61 != 0)
        ·
         rw [hc87] at s;have hp94 : ¬ (chkOp y61 ≠ 0) := by first | simpa using hc87 | simpa [and_assoc] using hc87
         refine co_false s rfl <| q0 <| co_seq ?_;refine dr_eq (by kernel_rfl) (fun w95 hg96 => ?_);have hz97 := hg96.size;refine dk0 0 (v := .int .i64 (i : Int)) s rfl rfl rfl fun _ s => ?_;refine dk0 1 (v := .bool (decide ((i : Int) > 0))) s rfl rfl rfl fun _ s => ?_;refine dk0 2 (v := .bool (decide ((i : Int) > 0))) s rfl rfl rfl fun _ s => ?_;have hB102 := hb_new hB90 hg96;have hk103 := hk75'.below hb82;have hk104 := hk103.kept hg96 (by simp);cases hc101 : (decide ((i : Int) > 0))
         ·
          rw [hc101] at s;have hp105 : ¬ ((i : Int) > 0) := of_decide_eq_false hc101;refine dsk 3 s rfl rfl rfl fun _ s => ?_;refine dsk 4 s rfl rfl rfl fun _ s => ?_;refine dsk 5 s rfl rfl rfl fun _ s => ?_;refine dsk 6 s rfl rfl rfl fun _ s => ?_;refine dsk 7 s rfl rfl rfl fun _ s => ?_;refine dsk 8 s rfl rfl rfl fun _ s => ?_;refine dsk 9 s rfl rfl rfl fun _ s => ?_;refine dsk 10 s rfl rfl rfl fun _ s => ?_;refine dsk 11 s rfl rfl rfl fun _ s => ?_;refine dsk 12 s rfl rfl rfl fun _ s => ?_;refine dk0 13 (v := .bool false) s rfl rfl rfl fun _ s => ?_;refine dr_done (by kernel_rfl) ?_;refine co_then ?_;refine co_false s rfl <| wp_skip <| co_blockN <| co_then <| co_reg ?_;refine pk (v := .int .i64 ((i + 1 : Nat) : Int)) s rfl (rn_arith' rfl rfl rfl rfl rfl rfl (IntWalk.i64_in _ (by omega)) (by omega)) fun _ s => ?_;refine pk0 (v := .int .i64 ((i + 1 : Nat) : Int)) s rfl fun _ s => q1 ?_;refine ⟨(l.length - (i + 1)), by omega, ?_⟩;have hO : chkOp y61 = 0 := by omega
          have hU : keyUp (prevK l i) y61.1 = true := (keyUp_0 (by omega));have hL' := chkL_step (i := i) hL hy61 hO hU;have hk119 := hk93.kept hg96 (by simp);exact ⟨i + 1, s.sub ⟨rfl, rfl, rfl, rfl, rfl, trivial⟩, rfl, by omega, by first | exact chkB_d rfl (by omega) (by omega) (by omega) | exact hL', hB102, hk119⟩
         rw [hc101] at s;have hp120 : (i : Int) > 0 := of_decide_eq_true hc101;refine dk0 3 (v := pt N66 0) s rfl rfl rfl fun _ s => ?_;refine dk 4 (v := .string y61.1) s rfl rfl rfl (fun x hx => by subst hx; exact (rn_load1 rfl rfl Tryz.isAgg9 (hk104.cell rfl))) fun _ s => ?_;refine dk0 5 (v := pt N3 2) s rfl rfl rfl fun _ s => ?_;have hk124 := hk93.kept hg96 (by simp);refine dk 6 (v := v) s rfl rfl rfl (fun x hx => by subst hx; exact (rn_load1 rfl rfl Tryz.isAgg27 (hk124.cell rfl))) fun _ s => ?_;refine dk0 7 (v := .int .i64 (i : Int)) s rfl rfl rfl fun _ s => ?_;refine dk 8 (v := .int .i64 ((i : Int) - 1)) s rfl rfl rfl (fun x hx => by subst hx; exact (rn_arith rfl rfl rfl rfl rfl rfl (IntWalk.i64_in _ (by omega)))) fun _ s => ?_;obtain ⟨y128, hy128⟩ : ∃ z, l[((i : Int) - 1).toNat]? = some z := ⟨_, List.getElem?_eq_getElem (by first | omega | (simp; done) | (simp; omega))⟩;refine dk 9 (v := pt (blkOf v) (offOf v + (((i : Int) - 1).toNat) * 3)) s rfl rfl rfl (fun x hx => by subst hx; exact (rn_index rfl rfl rfl Tryz.underlying27 Tryz.sizeOf134 (hs.below hB102) (by omega) (by first | omega | (simp; done) | (simp; omega)))) fun _ s => ?_;refine dk0 10 (v := pt (blkOf v) (offOf v + (((i : Int) - 1).toNat) * 3)) s rfl rfl rfl fun _ s => ?_;refine dk 11 (v := .string y128.1) s rfl rfl rfl (fun x hx => by subst hx; exact (rn_load1 rfl rfl Tryz.isAgg9 ((sl_at (hs.below hB102) hy128) 0 _ rfl))) fun _ s => ?_;refine dk0 12 (v := .bool (Op.bytesLess y61.1.toList y128.1.toList || y61.1.toList == y128.1.toList)) s rfl rfl rfl fun _ s => ?_;refine dk0 13 (v := .bool (Op.bytesLess y61.1.toList y128.1.toList || y61.1.toList == y128.1.toList)) s rfl rfl rfl fun _ s => ?_;refine dr_done (by kernel_rfl) ?_;refine co_then ?_;cases hc134 : ((Op.bytesLess y61.1.toList y128.1.toList || y61.1.toList == y128.1.toList))
         ·
          rw [hc134] at s;refine co_false s rfl <| wp_skip <| co_blockN <| co_then <| co_reg ?_;refine pk (v := .int .i64 ((i + 1 : Nat) : Int)) s rfl (rn_arith' rfl rfl rfl rfl rfl rfl (IntWalk.i64_in _ (by omega)) (by omega)) fun _ s => ?_;refine pk0 (v := .int .i64 ((i + 1 : Nat) : Int)) s rfl fun _ s => q1 ?_;refine ⟨(l.length - (i + 1)), by omega, ?_⟩;have hO : chkOp y61 = 0 := by omega
          have hU : keyUp (prevK l i) y61.1 = true := (keyUp_flip (l := l) (i := i) (b := false) (y := y61) (j := ((i : Int) - 1).toNat) (by omega) (by omega) hy128 (by assumption));have hL' := chkL_step (i := i) hL hy61 hO hU;exact ⟨i + 1, s.sub ⟨rfl, rfl, rfl, rfl, rfl, trivial⟩, rfl, by omega, by first | exact chkB_d rfl (by omega) (by omega) (by omega) | exact hL', hB102, hk124⟩
         rw [hc134] at s;refine co_true s rfl <| q2 ?_;refine pk0 (v := .int .i64 18) s rfl fun _ s => q4 <| qr <| co_thenR <| qr ?_;refine co_ret1 s rfl rfl ?_;have hO : chkOp y61 = 0 := by omega
         exact ⟨ret_int (chkL_ord (i := i) hL hy61 hO (keyUp_flip (l := l) (i := i) (b := true) (y := y61) (j := ((i : Int) - 1).toNat) (by omega) (by omega) hy128 (by assumption))), hB102⟩
        rw [hc87] at s;have hp138 : chkOp y61 ≠ 0 := by first | simpa using hc87 | simpa [and_assoc] using hc87
        refine co_true s rfl <| q2 ?_;refine pk0 (v := .int .i64 (chkOp y61)) s rfl fun _ s => ?_;refine pk0 (v := .int .i64 (chkOp y61)) s rfl fun _ s => q5 <| qr <| co_thenR <| qr ?_;refine co_ret1 s rfl rfl ?_;exact ⟨ret_int (chkL_bad (i := i) hL hy61 (by assumption)), hB90⟩
     rw [hc39] at s;have hp141 : (l.length : Int) > 4 := of_decide_eq_true hc39;refine co_true s rfl <| q2 ?_;refine pk0 (v := .int .i64 6) s rfl fun _ s => q5 ?_;refine co_ret1 s rfl rfl ?_;exact ⟨ret_int (chkB_c rfl (by omega) (by omega) (by omega)), hB15⟩
    rw [hc33] at s;have hp143 : r > 1073741824 := of_decide_eq_true hc33;refine co_true s rfl <| q2 ?_;refine pk0 (v := .int .i64 5) s rfl fun _ s => q5 ?_;refine co_ret1 s rfl rfl ?_;exact ⟨ret_int (chkB_b rfl (by omega) (by omega)), hB15⟩
   rw [hc27] at s;have hp145 : r < 1 := of_decide_eq_true hc27;refine psk s rfl fun _ s => ?_;refine psk s rfl fun _ s => ?_;refine psk s rfl fun _ s => ?_;refine pk0 (v := .bool true) s rfl fun _ s => q1 ?_;refine co_true s rfl <| q2 ?_;refine pk0 (v := .int .i64 5) s rfl fun _ s => q5 ?_;refine co_ret1 s rfl rfl ?_;exact ⟨ret_int (chkB_b rfl (by omega) (by omega)), hB15⟩
  rw [hc21] at s;have hp151 : c ≥ 3 := of_decide_eq_true hc21;refine co_true s rfl <| q2 ?_;refine pk0 (v := .int .i64 1) s rfl fun _ s => q5 ?_;refine co_ret1 s rfl rfl ?_;exact ⟨ret_int (chkB_a rfl (by omega)), hB15⟩
 rw [hc14] at s;have hp153 : c < 0 := of_decide_eq_true hc14;refine psk s rfl fun _ s => ?_;refine psk s rfl fun _ s => ?_;refine psk s rfl fun _ s => ?_;refine pk0 (v := .bool true) s rfl fun _ s => q1 ?_;refine co_true s rfl <| q2 ?_;refine pk0 (v := .int .i64 1) s rfl fun _ s => q5 ?_;refine co_ret1 s rfl rfl ?_;exact ⟨ret_int (chkB_a rfl (by omega)), hB15⟩
set_option maxRecDepth 100000 in
theorem ropsCheck_any (c : Int) (r : Int) (v : Value) (l : List OpT) (w : World) (hs : SliceOf opE 3 w v l) :
    Calls Tryz.prog 80 #[.agg #[.int .i64 c, .int .i64 r, v]] w fun e w' => e = .returned (.int .i64 (chkB c r l)) ∧ Below w.heap.size w w' := by
 have hB0 := Below.refl w.heap.size w;have hl_hs := sl_len hs;refine co_enter (n := 66) Tryz.func80 rfl rfl rfl [(0, .agg #[.int .i64 c, .int .i64 r, v])] rfl (fun a s => ?_);refine q2 ?_;refine pw s rfl (op_new (v := fun N => pt N 0) (T := 29) (cs := #[.int .i64 c, .int .i64 r, v]) (by kernel_rfl) (by kernel_rfl) (by kernel_rfl)) ?_;rintro _ w2 a1 ⟨N3, rfl, hN6, hz7, hk5, hg4⟩ s;have hz8 := hg4.size
 try dsimp only at s
 refine pk0 (v := .int .i64 0) s rfl fun _ s => q6 ?_;refine pk0 (v := pt N3 0) s rfl fun _ s => ?_;refine pk (v := .int .i64 c) s rfl (rn_load1 rfl rfl Tryz.isAgg3 (hk5.cell rfl)) fun _ s => ?_;refine pk0 (v := .bool (decide (c < 0))) s rfl fun _ s => ?_;refine pk0 (v := .bool (decide (c < 0))) s rfl fun _ s => ?_;have hB15 := hb_new hB0 hg4;cases hc14 : (decide (c < 0))
 ·
  rw [hc14] at s;have hp16 : ¬ (c < 0) := of_decide_eq_false hc14;refine pk0 (v := pt N3 0) s rfl fun _ s => ?_;refine pk (v := .int .i64 c) s rfl (rn_load1 rfl rfl Tryz.isAgg3 (hk5.cell rfl)) fun _ s => ?_;refine pk0 (v := .bool (decide (c ≥ 3))) s rfl fun _ s => ?_;refine pk0 (v := .bool (decide (c ≥ 3))) s rfl fun _ s => q1 ?_;cases hc21 : (decide (c ≥ 3))
  ·
   rw [hc21] at s;have hp22 : ¬ (c ≥ 3) := of_decide_eq_false hc21;refine co_false s rfl <| q8 ?_;refine pk0 (v := pt N3 1) s rfl fun _ s => ?_;refine pk (v := .int .i64 r) s rfl (rn_load1 rfl rfl Tryz.isAgg3 (hk5.cell rfl)) fun _ s => ?_;refine pk0 (v := .bool (decide (r < 1))) s rfl fun _ s => ?_;refine pk0 (v := .bool (decide (r < 1))) s rfl fun _ s => ?_;cases hc27 : (decide (r < 1))
   ·
    rw [hc27] at s;have hp28 : ¬ (r < 1) := of_decide_eq_false hc27;refine pk0 (v := pt N3 1) s rfl fun _ s => ?_;refine pk (v := .int .i64 r) s rfl (rn_load1 rfl rfl Tryz.isAgg3 (hk5.cell rfl)) fun _ s => ?_;refine pk0 (v := .bool (decide (r > 1073741824))) s rfl fun _ s => ?_;refine pk0 (v := .bool (decide (r > 1073741824))) s rfl fun _ s => q1 ?_;cases hc33 : (decide (r > 1073741824))
    ·
     rw [hc33] at s;have hp34 : ¬ (r > 1073741824) := of_decide_eq_false hc33;refine co_false s rfl <| q8 ?_;refine pk0 (v := pt N3 2) s rfl fun _ s => ?_;refine pk (v := v) s rfl (rn_load1 rfl rfl Tryz.isAgg27 (hk5.cell rfl)) fun _ s => ?_;refine pk (v := .int .i64 (l.length : Int)) s rfl (rn_len rfl rfl Tryz.underlying27 (hs.below hB15)) fun _ s => ?_;refine pk0 (v := .bool (decide ((l.length : Int) > 4))) s rfl fun _ s => q1 ?_;cases hc39 : (decide ((l.length : Int) > 4))
     ·
      rw [hc39] at s;have hp40 : ¬ ((l.length : Int) > 4) := of_decide_eq_false hc39;refine co_false s rfl <| q8 ?_;refine pk0 (v := .int .i64 0) s rfl fun _ s => q1 <| wp_block ?_;have s : Slots 66 [(1, pt N3 0), (2, .int .i64 0), (3, .int .i64 0)] _ := s.sub ⟨rfl, rfl, rfl, trivial⟩;refine co_loop (fun mm a x => ∃ (i : Nat), Slots 66 [(1, pt N3 0), (2, .int .i64 0), (3, .int .i64 (i : Int))] a ∧ mm = l.length - i ∧ (i ≤ l.length) ∧ (chkL (prevK l i) (l.drop i) = chkB c r l) ∧ Below w.heap.size w x ∧ Blk x N3 29 #[.int .i64 c, .int .i64 r, v]) (l.length - 0) ?_ ?_
      · exact ⟨0, s.sub ⟨rfl, rfl, (slot_eq rfl (congrArg (Value.int .i64) (by first | rfl | omega))), trivial⟩, rfl, by omega, by first | exact chkB_d rfl (by omega) (by omega) (by omega) | exact hL', hB15, hk5⟩
      · rintro k43 a44 w45 ⟨i, s, rfl, hi46, hi47, hB48, hk49⟩
        have hz50 := hB48.size;have hl51 := hk49.lt;have hL : chkL (prevK l i) (l.drop i) = chkB c r l := by assumption
        refine q9 ?_;refine pk0 (v := .int .i64 (i : Int)) s rfl fun _ s => ?_;refine pk0 (v := pt N3 2) s rfl fun _ s => ?_;refine pk (v := v) s rfl (rn_load1 rfl rfl Tryz.isAgg27 (hk49.cell rfl)) fun _ s => ?_;refine pk (v := .int .i64 (l.length : Int)) s rfl (rn_len rfl rfl Tryz.underlying27 (hs.below hB48)) fun _ s => ?_;refine pk0 (v := .bool (decide ((i : Int) < (l.length : Int)))) s rfl fun _ s => q1 ?_;cases hc57 : (decide ((i : Int) < (l.length : Int)))
        ·
         rw [hc57] at s;have hp58 : ¬ ((i : Int) < (l.length : Int)) := of_decide_eq_false hc57;refine co_false s rfl <| wp_exit <| co_thenX <| co_thenX <| qx <| q2 ?_;refine pk0 (v := .int .i64 0) s rfl fun _ s => q4 ?_;refine co_ret1 s rfl rfl ?_;exact ⟨ret_int (chkL_end (i := i) hL (by omega)), hB48⟩
        rw [hc57] at s;have hp60 : (i : Int) < (l.length : Int) := of_decide_eq_true hc57;refine co_true s rfl <| q0 <| co_seq <| wp_block <| q2 ?_;refine pk0 (v := pt N3 2) s rfl fun _ s => ?_;refine pk (v := v) s rfl (rn_load1 rfl rfl Tryz.isAgg27 (hk49.cell rfl)) fun _ s => ?_;refine pk0 (v := .int .i64 (i : Int)) s rfl fun _ s => ?_;obtain ⟨y64, hy64⟩ : ∃ z, l[i]? = some z := ⟨_, List.getElem?_eq_getElem (by first | omega | (simp; done) | (simp; omega))⟩;refine pk (v := pt (blkOf v) (offOf v + i * 3)) s rfl (rn_index rfl rfl rfl Tryz.underlying27 Tryz.sizeOf134 (hs.below hB48) (by omega) (by first | omega | (simp; done) | (simp; omega))) fun _ s => ?_;refine pk (v := .agg #[.string y64.1, .string y64.2.1, .bool y64.2.2]) s rfl (rn_loadN rfl rfl Tryz.underlying134 rfl (by kernel_rfl) (sl_at (hs.below hB48) hy64)) fun _ s => ?_;refine pw s rfl (op_new (v := fun N => pt N 0) (T := 134) (cs := #[.string (⟨#[]⟩), .string (⟨#[]⟩), .bool false]) (by kernel_rfl) (by kernel_rfl) (by kernel_rfl)) ?_;rintro _ w68 a67 ⟨N69, rfl, hN72, hz73, hk71, hg70⟩ s;have hz74 := hg70.size
        try dsimp only at s
        refine pwD s rfl (op_storeN rfl rfl rfl (by kernel_rfl) (by kernel_rfl) hk71 rfl) ?_;rintro _ w76 a75 ⟨hk77, hz78, hg79⟩ s;have hk77' : Blk w76 N69 134 #[.string y64.1, .string y64.2.1, .bool y64.2.2] := hk77;have hz80 := hg79.size;refine q6 ?_;refine pk0 (v := pt N69 0) s rfl fun _ s => ?_;refine pk (v := .string y64.1) s rfl (rn_load1 rfl rfl Tryz.isAgg9 (hk77'.cell rfl)) fun _ s => ?_;refine pw s rfl (op_call (args := #[.string y64.1]) (R := fun res xw => res = .int .i64 (keyC y64.1) ∧ Below w76.heap.size w76 xw) rfl rfl rfl (by kernel_rfl) (by kernel_rfl) (Tryz.call120 _ _) (rKey_any y64.1 w76 ) (by rintro e x ⟨rfl, hb85⟩; exact ⟨_, rfl, ⟨rfl, hb85⟩⟩)) ?_;rintro _ w84 a83 ⟨rfl, hb85⟩ s;have hz86 := hb85.size;refine pk0 (v := .bool (keyC y64.1 != 0)) s rfl fun _ s => q1 ?_;have hB89 := hb_new hB48 hg70;have hB90 := hb_at hB89 hg79 (by omega);have hB91 := hb_call hB90 hb85;have hk92 := hk49.kept hg70 (by simp);have hk93 := hk92.kept hg79 (by simp; omega);have hk94 := hk93.below hb85;cases hc88 : (keyC y64.1 != 0)
        ·
         rw [hc88] at s;have hp95 : ¬ (keyC y64.1 ≠ 0) := by first | simpa using hc88 | simpa [and_assoc] using hc88
         refine co_false s rfl <| q8 ?_;refine pk0 (v := pt N69 1) s rfl fun _ s => ?_;have hk97 := hk77'.below hb85;refine pk (v := .string y64.2.1) s rfl (rn_load1 rfl rfl Tryz.isAgg9 (hk97.cell rfl)) fun _ s => ?_;refine pk (v := .int .i64 (y64.2.1.size : Int)) s rfl (rn_lenStr rfl rfl Tryz.underlying9) fun _ s => ?_;refine pk0 (v := .bool (decide ((y64.2.1.size : Int) > 8))) s rfl fun _ s => q1 ?_;cases hc101 : (decide ((y64.2.1.size : Int) > 8))
         ·
          rw [hc101] at s;have hp102 : ¬ ((y64.2.1.size : Int) > 8) := of_decide_eq_false hc101;refine co_false s rfl <| q8 ?_;refine pk0 (v := pt N69 2) s rfl fun _ s => ?_;refine pk (v := .bool y64.2.2) s rfl (rn_load1 rfl rfl Tryz.isAgg4 (hk97.cell rfl)) fun _ s => ?_;refine pk0 (v := .bool y64.2.2) s rfl fun _ s => ?_;cases hc106 : (y64.2.2)
          ·
           rw [hc106] at s;refine psk s rfl fun _ s => ?_;refine psk s rfl fun _ s => ?_;refine psk s rfl fun _ s => ?_;refine pk0 (v := .bool false) s rfl fun _ s => q1 ?_;refine co_false s rfl <| q0 <| co_seq ?_;refine dr_eq (by kernel_rfl) (fun w111 hg112 => ?_);have hz113 := hg112.size;refine dk0 0 (v := .int .i64 (i : Int)) s rfl rfl rfl fun _ s => ?_;refine dk0 1 (v := .bool (decide ((i : Int) > 0))) s rfl rfl rfl fun _ s => ?_;refine dk0 2 (v := .bool (decide ((i : Int) > 0))) s rfl rfl rfl fun _ s => ?_;have hB118 := hb_new hB91 hg112;cases hc117 : (decide ((i : Int) > 0))
           ·
            rw [hc117] at s;have hp119 : ¬ ((i : Int) > 0) := of_decide_eq_false hc117;refine dsk 3 s rfl rfl rfl fun _ s => ?_;refine dsk 4 s rfl rfl rfl fun _ s => ?_;refine dsk 5 s rfl rfl rfl fun _ s => ?_;refine dsk 6 s rfl rfl rfl fun _ s => ?_;refine dsk 7 s rfl rfl rfl fun _ s => ?_;refine dsk 8 s rfl rfl rfl fun _ s => ?_;refine dsk 9 s rfl rfl rfl fun _ s => ?_;refine dsk 10 s rfl rfl rfl fun _ s => ?_;refine dsk 11 s rfl rfl rfl fun _ s => ?_;refine dsk 12 s rfl rfl rfl fun _ s => ?_;refine dk0 13 (v := .bool false) s rfl rfl rfl fun _ s => ?_;refine dr_done (by kernel_rfl) ?_;refine co_then ?_;refine co_false s rfl <| wp_skip <| co_blockN <| co_then <| co_reg ?_;refine pk0 (v := .int .i64 (i : Int)) s rfl fun _ s => ?_;refine pk (v := .int .i64 ((i + 1 : Nat) : Int)) s rfl (rn_arith' rfl rfl rfl rfl rfl rfl (IntWalk.i64_in _ (by omega)) (by omega)) fun _ s => ?_;refine pk0 (v := .int .i64 ((i + 1 : Nat) : Int)) s rfl fun _ s => q1 ?_;refine ⟨(l.length - (i + 1)), by omega, ?_⟩;have hO : chkOp y64 = 0 := chkOp_d (by assumption) (by assumption) (by first | exact delV_t (by assumption) (by assumption) | exact delV_f (by assumption));have hU : keyUp (prevK l i) y64.1 = true := (keyUp_0 (by omega));have hL' := chkL_step (i := i) hL hy64 hO hU;have hk134 := hk94.kept hg112 (by simp);exact ⟨i + 1, s.sub ⟨rfl, rfl, rfl, trivial⟩, rfl, by omega, by first | exact chkB_d rfl (by omega) (by omega) (by omega) | exact hL', hB118, hk134⟩
           rw [hc117] at s;have hp135 : (i : Int) > 0 := of_decide_eq_true hc117;refine dk0 3 (v := pt N3 2) s rfl rfl rfl fun _ s => ?_;have hk137 := hk94.kept hg112 (by simp);refine dk 4 (v := v) s rfl rfl rfl (fun x hx => by subst hx; exact (rn_load1 rfl rfl Tryz.isAgg27 (hk137.cell rfl))) fun _ s => ?_;refine dk0 5 (v := .int .i64 (i : Int)) s rfl rfl rfl fun _ s => ?_;refine dk 6 (v := .int .i64 ((i : Int) - 1)) s rfl rfl rfl (fun x hx => by subst hx; exact (rn_arith rfl rfl rfl rfl rfl rfl (IntWalk.i64_in _ (by omega)))) fun _ s => ?_;obtain ⟨y141, hy141⟩ : ∃ z, l[((i : Int) - 1).toNat]? = some z := ⟨_, List.getElem?_eq_getElem (by first | omega | (simp; done) | (simp; omega))⟩;refine dk 7 (v := pt (blkOf v) (offOf v + (((i : Int) - 1).toNat) * 3)) s rfl rfl rfl (fun x hx => by subst hx; exact (rn_index rfl rfl rfl Tryz.underlying27 Tryz.sizeOf134 (hs.below hB118) (by omega) (by first | omega | (simp; done) | (simp; omega)))) fun _ s => ?_;refine dk0 8 (v := pt (blkOf v) (offOf v + (((i : Int) - 1).toNat) * 3)) s rfl rfl rfl fun _ s => ?_;refine dk 9 (v := .string y141.1) s rfl rfl rfl (fun x hx => by subst hx; exact (rn_load1 rfl rfl Tryz.isAgg9 ((sl_at (hs.below hB118) hy141) 0 _ rfl))) fun _ s => ?_;refine dk0 10 (v := pt N69 0) s rfl rfl rfl fun _ s => ?_;have hk146 := hk97.kept hg112 (by simp);refine dk 11 (v := .string y64.1) s rfl rfl rfl (fun x hx => by subst hx; exact (rn_load1 rfl rfl Tryz.isAgg9 (hk146.cell rfl))) fun _ s => ?_;refine dk0 12 (v := .bool (!(Op.bytesLess y141.1.toList y64.1.toList))) s rfl rfl rfl fun _ s => ?_;refine dk0 13 (v := .bool (!(Op.bytesLess y141.1.toList y64.1.toList))) s rfl rfl rfl fun _ s => ?_;refine dr_done (by kernel_rfl) ?_;refine co_then ?_;cases hc150 : (!(Op.bytesLess y141.1.toList y64.1.toList))
           ·
            rw [hc150] at s;refine co_false s rfl <| wp_skip <| co_blockN <| co_then <| co_reg ?_;refine pk0 (v := .int .i64 (i : Int)) s rfl fun _ s => ?_;refine pk (v := .int .i64 ((i + 1 : Nat) : Int)) s rfl (rn_arith' rfl rfl rfl rfl rfl rfl (IntWalk.i64_in _ (by omega)) (by omega)) fun _ s => ?_;refine pk0 (v := .int .i64 ((i + 1 : Nat) : Int)) s rfl fun _ s => q1 ?_;refine ⟨(l.length - (i + 1)), by omega, ?_⟩;have hO : chkOp y64 = 0 := chkOp_d (by assumption) (by assumption) (by first | exact delV_t (by assumption) (by assumption) | exact delV_f (by assumption));have hU : keyUp (prevK l i) y64.1 = true := (keyUp_at (l := l) (i := i) (y := y64) (j := ((i : Int) - 1).toNat) (by omega) (by omega) hy141 (by simpa using hc150));have hL' := chkL_step (i := i) hL hy64 hO hU;exact ⟨i + 1, s.sub ⟨rfl, rfl, rfl, trivial⟩, rfl, by omega, by first | exact chkB_d rfl (by omega) (by omega) (by omega) | exact hL', hB118, hk137⟩
           rw [hc150] at s;refine co_true s rfl <| q2 ?_;refine pk0 (v := .int .i64 18) s rfl fun _ s => q4 <| qr <| co_thenR <| qr ?_;refine co_ret1 s rfl rfl ?_;have hO : chkOp y64 = 0 := chkOp_d (by assumption) (by assumption) (by first | exact delV_t (by assumption) (by assumption) | exact delV_f (by assumption));exact ⟨ret_int (chkL_ord (i := i) hL hy64 hO (keyUp_at (l := l) (i := i) (y := y64) (j := ((i : Int) - 1).toNat) (by omega) (by omega) hy141 (by simpa using hc150))), hB118⟩
          rw [hc106] at s;refine pk0 (v := pt N69 1) s rfl fun _ s => ?_;refine pk (v := .string y64.2.1) s rfl (rn_load1 rfl rfl Tryz.isAgg9 (hk97.cell rfl)) fun _ s => ?_;refine pk0 (v := .bool (!(y64.2.1.toList == (⟨#[]⟩ : ByteArray).toList))) s rfl fun _ s => ?_;refine pk0 (v := .bool (!(y64.2.1.toList == (⟨#[]⟩ : ByteArray).toList))) s rfl fun _ s => q1 ?_;cases hc159 : (!(y64.2.1.toList == (⟨#[]⟩ : ByteArray).toList))
          ·
           rw [hc159] at s;refine co_false s rfl <| q0 <| co_seq ?_;refine dr_eq (by kernel_rfl) (fun w160 hg161 => ?_);have hz162 := hg161.size;refine dk0 0 (v := .int .i64 (i : Int)) s rfl rfl rfl fun _ s => ?_;refine dk0 1 (v := .bool (decide ((i : Int) > 0))) s rfl rfl rfl fun _ s => ?_;refine dk0 2 (v := .bool (decide ((i : Int) > 0))) s rfl rfl rfl fun _ s => ?_;have hB167 := hb_new hB91 hg161;cases hc166 : (decide ((i : Int) > 0))
           ·
            rw [hc166] at s;have hp168 : ¬ ((i : Int) > 0) := of_decide_eq_false hc166;refine dsk 3 s rfl rfl rfl fun _ s => ?_;refine dsk 4 s rfl rfl rfl fun _ s => ?_;refine dsk 5 s rfl rfl rfl fun _ s => ?_;refine dsk 6 s rfl rfl rfl fun _ s => ?_;refine dsk 7 s rfl rfl rfl fun _ s => ?_;refine dsk 8 s rfl rfl rfl fun _ s => ?_;refine dsk 9 s rfl rfl rfl fun _ s => ?_;refine dsk 10 s rfl rfl rfl fun _ s => ?_;refine dsk 11 s rfl rfl rfl fun _ s => ?_;refine dsk 12 s rfl rfl rfl fun _ s => ?_;refine dk0 13 (v := .bool false) s rfl rfl rfl fun _ s => ?_;refine dr_done (by kernel_rfl) ?_;refine co_then ?_;refine co_false s rfl <| wp_skip <| co_blockN <| co_then <| co_reg ?_;refine pk0 (v := .int .i64 (i : Int)) s rfl fun _ s => ?_;refine pk (v := .int .i64 ((i + 1 : Nat) : Int)) s rfl (rn_arith' rfl rfl rfl rfl rfl rfl (IntWalk.i64_in _ (by omega)) (by omega)) fun _ s => ?_;refine pk0 (v := .int .i64 ((i + 1 : Nat) : Int)) s rfl fun _ s => q1 ?_;refine ⟨(l.length - (i + 1)), by omega, ?_⟩;have hO : chkOp y64 = 0 := chkOp_d (by assumption) (by assumption) (by first | exact delV_t (by assumption) (by assumption) | exact delV_f (by assumption));have hU : keyUp (prevK l i) y64.1 = true := (keyUp_0 (by omega));have hL' := chkL_step (i := i) hL hy64 hO hU;have hk183 := hk94.kept hg161 (by simp);exact ⟨i + 1, s.sub ⟨rfl, rfl, rfl, trivial⟩, rfl, by omega, by first | exact chkB_d rfl (by omega) (by omega) (by omega) | exact hL', hB167, hk183⟩
           rw [hc166] at s;have hp184 : (i : Int) > 0 := of_decide_eq_true hc166;refine dk0 3 (v := pt N3 2) s rfl rfl rfl fun _ s => ?_;have hk186 := hk94.kept hg161 (by simp);refine dk 4 (v := v) s rfl rfl rfl (fun x hx => by subst hx; exact (rn_load1 rfl rfl Tryz.isAgg27 (hk186.cell rfl))) fun _ s => ?_;refine dk0 5 (v := .int .i64 (i : Int)) s rfl rfl rfl fun _ s => ?_;refine dk 6 (v := .int .i64 ((i : Int) - 1)) s rfl rfl rfl (fun x hx => by subst hx; exact (rn_arith rfl rfl rfl rfl rfl rfl (IntWalk.i64_in _ (by omega)))) fun _ s => ?_;obtain ⟨y190, hy190⟩ : ∃ z, l[((i : Int) - 1).toNat]? = some z := ⟨_, List.getElem?_eq_getElem (by first | omega | (simp; done) | (simp; omega))⟩;refine dk 7 (v := pt (blkOf v) (offOf v + (((i : Int) - 1).toNat) * 3)) s rfl rfl rfl (fun x hx => by subst hx; exact (rn_index rfl rfl rfl Tryz.underlying27 Tryz.sizeOf134 (hs.below hB167) (by omega) (by first | omega | (simp; done) | (simp; omega)))) fun _ s => ?_;refine dk0 8 (v := pt (blkOf v) (offOf v + (((i : Int) - 1).toNat) * 3)) s rfl rfl rfl fun _ s => ?_;refine dk 9 (v := .string y190.1) s rfl rfl rfl (fun x hx => by subst hx; exact (rn_load1 rfl rfl Tryz.isAgg9 ((sl_at (hs.below hB167) hy190) 0 _ rfl))) fun _ s => ?_;refine dk0 10 (v := pt N69 0) s rfl rfl rfl fun _ s => ?_;have hk195 := hk97.kept hg161 (by simp);refine dk 11 (v := .string y64.1) s rfl rfl rfl (fun x hx => by subst hx; exact (rn_load1 rfl rfl Tryz.isAgg9 (hk195.cell rfl))) fun _ s => ?_;refine dk0 12 (v := .bool (!(Op.bytesLess y190.1.toList y64.1.toList))) s rfl rfl rfl fun _ s => ?_;refine dk0 13 (v := .bool (!(Op.bytesLess y190.1.toList y64.1.toList))) s rfl rfl rfl fun _ s => ?_;refine dr_done (by kernel_rfl) ?_;refine co_then ?_;cases hc199 : (!(Op.bytesLess y190.1.toList y64.1.toList))
           ·
            rw [hc199] at s;refine co_false s rfl <| wp_skip <| co_blockN <| co_then <| co_reg ?_;refine pk0 (v := .int .i64 (i : Int)) s rfl fun _ s => ?_;refine pk (v := .int .i64 ((i + 1 : Nat) : Int)) s rfl (rn_arith' rfl rfl rfl rfl rfl rfl (IntWalk.i64_in _ (by omega)) (by omega)) fun _ s => ?_;refine pk0 (v := .int .i64 ((i + 1 : Nat) : Int)) s rfl fun _ s => q1 ?_;refine ⟨(l.length - (i + 1)), by omega, ?_⟩;have hO : chkOp y64 = 0 := chkOp_d (by assumption) (by assumption) (by first | exact delV_t (by assumption) (by assumption) | exact delV_f (by assumption));have hU : keyUp (prevK l i) y64.1 = true := (keyUp_at (l := l) (i := i) (y := y64) (j := ((i : Int) - 1).toNat) (by omega) (by omega) hy190 (by simpa using hc199));have hL' := chkL_step (i := i) hL hy64 hO hU;exact ⟨i + 1, s.sub ⟨rfl, rfl, rfl, trivial⟩, rfl, by omega, by first | exact chkB_d rfl (by omega) (by omega) (by omega) | exact hL', hB167, hk186⟩
           rw [hc199] at s;refine co_true s rfl <| q2 ?_;refine pk0 (v := .int .i64 18) s rfl fun _ s => q4 <| qr <| co_thenR <| qr ?_;refine co_ret1 s rfl rfl ?_;have hO : chkOp y64 = 0 := chkOp_d (by assumption) (by assumption) (by first | exact delV_t (by assumption) (by assumption) | exact delV_f (by assumption));exact ⟨ret_int (chkL_ord (i := i) hL hy64 hO (keyUp_at (l := l) (i := i) (y := y64) (j := ((i : Int) - 1).toNat) (by omega) (by omega) hy190 (by simpa using hc199))), hB167⟩
          rw [hc159] at s;refine co_true s rfl <| q2 ?_;refine pk0 (v := .int .i64 4) s rfl fun _ s => q5 <| qr <| co_thenR <| qr ?_;refine co_ret1 s rfl rfl ?_;have hO : chkOp y64 = 4 := chkOp_c (by assumption) (by assumption) (by first | exact delV_t (by assumption) (by assumption) | exact delV_f (by assumption));exact ⟨ret_int (hO.symm.trans (chkL_bad (i := i) hL hy64 (by omega))), hB91⟩
         rw [hc101] at s;have hp205 : (y64.2.1.size : Int) > 8 := of_decide_eq_true hc101;refine co_true s rfl <| q2 ?_;refine pk0 (v := .int .i64 3) s rfl fun _ s => q5 <| qr <| co_thenR <| qr ?_;refine co_ret1 s rfl rfl ?_;have hO : chkOp y64 = 3 := chkOp_b (by assumption) (by assumption);exact ⟨ret_int (hO.symm.trans (chkL_bad (i := i) hL hy64 (by omega))), hB91⟩
        rw [hc88] at s;have hp207 : keyC y64.1 ≠ 0 := by first | simpa using hc88 | simpa [and_assoc] using hc88
        refine co_true s rfl <| q2 ?_;refine pk0 (v := .int .i64 10) s rfl fun _ s => q5 <| qr <| co_thenR <| qr ?_;refine co_ret1 s rfl rfl ?_;have hO : chkOp y64 = 10 := by rw [chkOp_a (by assumption), keyC_ten (by assumption)]
        exact ⟨ret_int (hO.symm.trans (chkL_bad (i := i) hL hy64 (by omega))), hB91⟩
     rw [hc39] at s;have hp209 : (l.length : Int) > 4 := of_decide_eq_true hc39;refine co_true s rfl <| q2 ?_;refine pk0 (v := .int .i64 6) s rfl fun _ s => q5 ?_;refine co_ret1 s rfl rfl ?_;exact ⟨ret_int (chkB_c rfl (by omega) (by omega) (by omega)), hB15⟩
    rw [hc33] at s;have hp211 : r > 1073741824 := of_decide_eq_true hc33;refine co_true s rfl <| q2 ?_;refine pk0 (v := .int .i64 5) s rfl fun _ s => q5 ?_;refine co_ret1 s rfl rfl ?_;exact ⟨ret_int (chkB_b rfl (by omega) (by omega)), hB15⟩
   rw [hc27] at s;have hp213 : r < 1 := of_decide_eq_true hc27;refine psk s rfl fun _ s => ?_;refine psk s rfl fun _ s => ?_;refine psk s rfl fun _ s => ?_;refine pk0 (v := .bool true) s rfl fun _ s => q1 ?_;refine co_true s rfl <| q2 ?_;refine pk0 (v := .int .i64 5) s rfl fun _ s => q5 ?_;refine co_ret1 s rfl rfl ?_;exact ⟨ret_int (chkB_b rfl (by omega) (by omega)), hB15⟩
  rw [hc21] at s;have hp219 : c ≥ 3 := of_decide_eq_true hc21;refine co_true s rfl <| q2 ?_;refine pk0 (v := .int .i64 1) s rfl fun _ s => q5 ?_;refine co_ret1 s rfl rfl ?_;exact ⟨ret_int (chkB_a rfl (by omega)), hB15⟩
 rw [hc14] at s;have hp221 : c < 0 := of_decide_eq_true hc14;refine psk s rfl fun _ s => ?_;refine psk s rfl fun _ s => ?_;refine psk s rfl fun _ s => ?_;refine pk0 (v := .bool true) s rfl fun _ s => q1 ?_;refine co_true s rfl <| q2 ?_;refine pk0 (v := .int .i64 1) s rfl fun _ s => q5 ?_;refine co_ret1 s rfl rfl ?_;exact ⟨ret_int (chkB_a rfl (by omega)), hB15⟩
end Go.Proofs.YtcbagajjgbfgdaaGreat

/- Package ops: Same, Put of both. Conditions: none. -/
namespace Go.Proofs.YtcbagajjgbfgdaaGreat
open Go.RowKit Go.PlainAid
set_option linter.unusedVariables false


def eqO (x y : OpT) : Bool := x.1.toList == y.1.toList && x.2.1.toList == y.2.1.toList && x.2.2 == y.2.2
def sameL : List OpT → List OpT → Bool
  | [], [] => true
  | x :: a, y :: b => eqO x y && sameL a b
  | _, _ => false
theorem sameL_len : ∀ {a b : List OpT}, a.length ≠ b.length → false = sameL a b
  | [], [], h => absurd rfl h
  | [], _ :: _, _ => rfl
  | _ :: _, [], _ => rfl
  | x :: a, y :: b, h => by
    show false = (eqO x y && sameL a b)
    rw [← sameL_len (a := a) (b := b) (fun e => h (by simp [e]))]; simp
theorem sameL_step {a b : List OpT} {i : Nat} {x y : OpT} {z : Bool} (h : sameL (a.drop i) (b.drop i) = z) (hx : a[i]? = some x) (hy : b[i]? = some y) (he : eqO x y = true) : sameL (a.drop (i + 1)) (b.drop (i + 1)) = z := by
  rw [dropO_at hx, dropO_at hy] at h; unfold sameL at h; rwa [he, Bool.true_and] at h
theorem sameL_no {a b : List OpT} {i : Nat} {x y : OpT} {z : Bool} (h : sameL (a.drop i) (b.drop i) = z) (hx : a[i]? = some x) (hy : b[i]? = some y) (he : eqO x y = false) : false = z := by
  rw [dropO_at hx, dropO_at hy] at h; unfold sameL at h; rwa [he, Bool.false_and] at h
theorem sameL_end {a b : List OpT} {i : Nat} {z : Bool} (h : sameL (a.drop i) (b.drop i) = z) (hl : a.length = b.length) (hi : a.length ≤ i) : true = z := by
  rw [List.drop_eq_nil_of_le hi, List.drop_eq_nil_of_le (by omega)] at h; exact h
theorem eqO_of {x y : OpT} {b : Bool} (h : (!(x.1.toList == y.1.toList && x.2.1.toList == y.2.1.toList && x.2.2 == y.2.2)) = b) : eqO x y = !b := by unfold eqO; rw [← h]; simp
theorem eqO_refl (x : OpT) : eqO x x = true := by unfold eqO; simp
theorem sameL_refl : ∀ a : List OpT, sameL a a = true
  | [] => rfl
  | x :: a => by show (eqO x x && sameL a a) = true; rw [eqO_refl, sameL_refl a]; rfl
def sameB (c r : Int) (l : List OpT) (c2 r2 : Int) (l2 : List OpT) : Bool := if c = c2 ∧ r = r2 then sameL l l2 else false
theorem sameB_y {c r c2 r2 : Int} {l l2 : List OpT} (h : c = c2) (h1 : r = r2) : sameL l l2 = sameB c r l c2 r2 l2 := by unfold sameB; rw [if_pos ⟨h, h1⟩]
theorem sameB_n {c r c2 r2 : Int} {l l2 : List OpT} (h : ¬ (c = c2 ∧ r = r2)) : false = sameB c r l c2 r2 l2 := by unfold sameB; rw [if_neg h]
theorem sameB_refl (c r : Int) (l : List OpT) : sameB c r l c r l = true := by rw [← sameB_y rfl rfl, sameL_refl]
/-- The bytes of a batch. -/
def putO1 (o : OpT) : List UInt8 := (putL (o.1.size : Int) ++ o.1.data.toList) ++ [flagB o.2.2] ++ (putL (o.2.1.size : Int) ++ o.2.1.data.toList)
def putOs (l : List OpT) : List UInt8 := l.flatMap putO1
def putH (c r : Int) (l : List OpT) : List UInt8 := putL c ++ putL r ++ putL ((l.length : Nat) : Int)
def putB (c r : Int) (l : List OpT) : ByteArray := if chkB c r l = 0 then ⟨(putH c r l ++ putOs l).toArray⟩ else ⟨#[]⟩
theorem putB_ok {c r : Int} {l : List OpT} (h : chkB c r l = 0) : putB c r l = ⟨(putH c r l ++ putOs l).toArray⟩ := by unfold putB; rw [if_pos h]
theorem putB_err {c r : Int} {l : List OpT} (h : chkB c r l ≠ 0) : putB c r l = ⟨#[]⟩ := by unfold putB; rw [if_neg h]

set_option maxRecDepth 100000 in
theorem equalOp_any (v : Value) (l : List OpT) (v2 : Value) (l2 : List OpT) (w : World) (hs : SliceOf opE 3 w v l) (hs2 : SliceOf opE 3 w v2 l2) :
    Calls Tryz.prog 123 #[v, v2] w fun e w' => e = .returned (.bool (sameL l l2)) ∧ Below w.heap.size w w' := by
 have hB0 := Below.refl w.heap.size w;have hl_hs := sl_len hs;have hl_hs2 := sl_len hs2;refine co_enter (n := 26) Tryz.func123 rfl rfl rfl [(0, v), (1, v2)] rfl (fun a s => ?_);refine q2 ?_;refine pk0 (v := .bool false) s rfl fun _ s => q6 ?_;refine pk0 (v := v) s rfl fun _ s => ?_;refine pk (v := .int .i64 (l.length : Int)) s rfl (rn_len rfl rfl Tryz.underlying27 hs) fun _ s => ?_;refine pk0 (v := v2) s rfl fun _ s => ?_;refine pk (v := .int .i64 (l2.length : Int)) s rfl (rn_len rfl rfl Tryz.underlying27 hs2) fun _ s => ?_;refine pk0 (v := .bool ((l.length : Int) != (l2.length : Int))) s rfl fun _ s => q1 ?_;cases hc7 : ((l.length : Int) != (l2.length : Int))
 ·
  rw [hc7] at s;have hp8 : ¬ ((l.length : Int) ≠ (l2.length : Int)) := by first | simpa using hc7 | simpa [and_assoc] using hc7
  refine co_false s rfl <| q8 ?_;refine pk0 (v := v) s rfl fun _ s => ?_;refine pk (v := .int .i64 (l.length : Int)) s rfl (rn_len rfl rfl Tryz.underlying27 hs) fun _ s => ?_;refine pk0 (v := .int .i64 0) s rfl fun _ s => q1 <| wp_block ?_;have s : Slots 26 [(0, v), (1, v2), (4, .bool false), (12, .int .i64 (l.length : Int)), (13, .int .i64 0)] _ := s.sub ⟨rfl, rfl, rfl, rfl, rfl, trivial⟩;refine co_loop (fun mm a x => ∃ (i : Nat), Slots 26 [(0, v), (1, v2), (4, .bool false), (12, .int .i64 (l.length : Int)), (13, .int .i64 (i : Int))] a ∧ mm = l.length - i ∧ (i ≤ l.length) ∧ (l.length = l2.length) ∧ (sameL (l.drop i) (l2.drop i) = sameL l l2) ∧ Below w.heap.size w x) (l.length - 0) ?_ ?_
  · exact ⟨0, s.sub ⟨rfl, rfl, rfl, rfl, (slot_eq rfl (congrArg (Value.int .i64) (by first | rfl | omega))), trivial⟩, rfl, by omega, by omega, by first | rfl | exact hL', hB0⟩
  · rintro k13 a14 w15 ⟨i, s, rfl, hi16, hi17, hi18, hB19⟩
    have hz20 := hB19.size;have hL : sameL (l.drop i) (l2.drop i) = sameL l l2 := by assumption
    refine q2 ?_;refine pk0 (v := .bool (decide ((i : Int) < (l.length : Int)))) s rfl fun _ s => q1 <| co_seq ?_;cases hc22 : (decide ((i : Int) < (l.length : Int)))
    ·
     rw [hc22] at s;have hp23 : ¬ ((i : Int) < (l.length : Int)) := of_decide_eq_false hc22;refine co_false s rfl <| wp_exit <| co_thenX <| co_thenX <| qx <| q2 ?_;refine pk0 (v := .bool true) s rfl fun _ s => q4 ?_;refine co_ret1 s rfl rfl ?_;exact ⟨ret_bool (sameL_end (i := i) hL (by omega) (by omega)), hB19⟩
    rw [hc22] at s;have hp25 : (i : Int) < (l.length : Int) := of_decide_eq_true hc22;refine co_true s rfl <| q0 <| co_seq <| wp_block <| q2 ?_;refine pk0 (v := .int .i64 (i : Int)) s rfl fun _ s => ?_;refine pk0 (v := .int .i64 (i : Int)) s rfl fun _ s => q1 <| co_seq ?_;refine dr_eq (by kernel_rfl) (fun w28 hg29 => ?_);have hz30 := hg29.size;refine dk0 0 (v := v) s rfl rfl rfl fun _ s => ?_;refine dk0 1 (v := .int .i64 (i : Int)) s rfl rfl rfl fun _ s => ?_;have hB34 := hb_new hB19 hg29;obtain ⟨y33, hy33⟩ : ∃ z, l[i]? = some z := ⟨_, List.getElem?_eq_getElem (by first | omega | (simp; done) | (simp; omega))⟩;refine dk 2 (v := pt (blkOf v) (offOf v + i * 3)) s rfl rfl rfl (fun x hx => by subst hx; exact (rn_index rfl rfl rfl Tryz.underlying27 Tryz.sizeOf134 (hs.below hB34) (by omega) (by first | omega | (simp; done) | (simp; omega)))) fun _ s => ?_;refine dk 3 (v := .agg #[.string y33.1, .string y33.2.1, .bool y33.2.2]) s rfl rfl rfl (fun x hx => by subst hx; exact (rn_loadN rfl rfl Tryz.underlying134 rfl (by kernel_rfl) (sl_at (hs.below hB34) hy33))) fun _ s => ?_;refine dk0 4 (v := v2) s rfl rfl rfl fun _ s => ?_;refine dk0 5 (v := .int .i64 (i : Int)) s rfl rfl rfl fun _ s => ?_;obtain ⟨y39, hy39⟩ : ∃ z, l2[i]? = some z := ⟨_, List.getElem?_eq_getElem (by first | omega | (simp; done) | (simp; omega))⟩;refine dk 6 (v := pt (blkOf v2) (offOf v2 + i * 3)) s rfl rfl rfl (fun x hx => by subst hx; exact (rn_index rfl rfl rfl Tryz.underlying27 Tryz.sizeOf134 (hs2.below hB34) (by omega) (by first | omega | (simp; done) | (simp; omega)))) fun _ s => ?_;refine dk 7 (v := .agg #[.string y39.1, .string y39.2.1, .bool y39.2.2]) s rfl rfl rfl (fun x hx => by subst hx; exact (rn_loadN rfl rfl Tryz.underlying134 rfl (by kernel_rfl) (sl_at (hs2.below hB34) hy39))) fun _ s => ?_;refine dk 8 (v := .bool (!(y33.1.toList == y39.1.toList && y33.2.1.toList == y39.2.1.toList && y33.2.2 == y39.2.2))) s rfl rfl rfl (fun x hx => by subst hx; exact (rn_neS rfl rfl rfl Tryz.eqGuardType134 (eq_op _ _ _ _ _ _ _))) fun _ s => ?_;refine dr_done (by kernel_rfl) ?_;refine co_then ?_;cases hc43 : (!(y33.1.toList == y39.1.toList && y33.2.1.toList == y39.2.1.toList && y33.2.2 == y39.2.2))
    ·
     rw [hc43] at s;refine co_false s rfl <| wp_skip <| co_blockN <| co_then <| co_reg ?_;refine pk (v := .int .i64 ((i + 1 : Nat) : Int)) s rfl (rn_arith' rfl rfl rfl rfl rfl rfl (IntWalk.i64_in _ (by omega)) (by omega)) fun _ s => ?_;refine pk0 (v := .int .i64 ((i + 1 : Nat) : Int)) s rfl fun _ s => q1 ?_;refine ⟨(l.length - (i + 1)), by omega, ?_⟩;have hL' := sameL_step (i := i) hL hy33 hy39 (eqO_of (b := false) (by assumption));exact ⟨i + 1, s.sub ⟨rfl, rfl, rfl, rfl, rfl, trivial⟩, rfl, by omega, by omega, by first | rfl | exact hL', hB34⟩
    rw [hc43] at s;refine co_true s rfl <| q2 ?_;refine pk0 (v := .bool false) s rfl fun _ s => q4 <| qr <| co_thenR <| qr ?_;refine co_ret1 s rfl rfl ?_;exact ⟨ret_bool (sameL_no (i := i) hL hy33 hy39 (eqO_of (b := true) (by assumption))), hB34⟩
 rw [hc7] at s;have hp47 : (l.length : Int) ≠ (l2.length : Int) := by first | simpa using hc7 | simpa [and_assoc] using hc7
 refine co_true s rfl <| q2 ?_;refine pk0 (v := .bool false) s rfl fun _ s => q5 ?_;refine co_ret1 s rfl rfl ?_;exact ⟨ret_bool (sameL_len (by omega)), hB0⟩
set_option maxRecDepth 100000 in
theorem rsameOps_any (v : Value) (l : List OpT) (v2 : Value) (l2 : List OpT) (w : World) (hs : SliceOf opE 3 w v l) (hs2 : SliceOf opE 3 w v2 l2) :
    Calls Tryz.prog 83 #[v, v2] w fun e w' => e = .returned (.bool (sameL l l2)) ∧ Below w.heap.size w w' := by
 have hB0 := Below.refl w.heap.size w;have hl_hs := sl_len hs;have hl_hs2 := sl_len hs2;refine co_enter (n := 32) Tryz.func83 rfl rfl rfl [(0, v), (1, v2)] rfl (fun a s => ?_);refine q2 ?_;refine pk0 (v := .bool false) s rfl fun _ s => q6 ?_;refine pk0 (v := v) s rfl fun _ s => ?_;refine pk (v := .int .i64 (l.length : Int)) s rfl (rn_len rfl rfl Tryz.underlying27 hs) fun _ s => ?_;refine pk0 (v := v2) s rfl fun _ s => ?_;refine pk (v := .int .i64 (l2.length : Int)) s rfl (rn_len rfl rfl Tryz.underlying27 hs2) fun _ s => ?_;refine pk0 (v := .bool ((l.length : Int) != (l2.length : Int))) s rfl fun _ s => q1 ?_;cases hc7 : ((l.length : Int) != (l2.length : Int))
 ·
  rw [hc7] at s;have hp8 : ¬ ((l.length : Int) ≠ (l2.length : Int)) := by first | simpa using hc7 | simpa [and_assoc] using hc7
  refine co_false s rfl <| q8 ?_;refine pk0 (v := .int .i64 0) s rfl fun _ s => q1 <| wp_block ?_;have s : Slots 32 [(0, v), (1, v2), (4, .bool false), (5, .int .i64 0)] _ := s.sub ⟨rfl, rfl, rfl, rfl, trivial⟩;refine co_loop (fun mm a x => ∃ (i : Nat), Slots 32 [(0, v), (1, v2), (4, .bool false), (5, .int .i64 (i : Int))] a ∧ mm = l.length - i ∧ (i ≤ l.length) ∧ (l.length = l2.length) ∧ (sameL (l.drop i) (l2.drop i) = sameL l l2) ∧ Below w.heap.size w x) (l.length - 0) ?_ ?_
  · exact ⟨0, s.sub ⟨rfl, rfl, rfl, (slot_eq rfl (congrArg (Value.int .i64) (by first | rfl | omega))), trivial⟩, rfl, by omega, by omega, by first | rfl | exact hL', hB0⟩
  · rintro k11 a12 w13 ⟨i, s, rfl, hi14, hi15, hi16, hB17⟩
    have hz18 := hB17.size;have hL : sameL (l.drop i) (l2.drop i) = sameL l l2 := by assumption
    refine q9 ?_;refine pk0 (v := .int .i64 (i : Int)) s rfl fun _ s => ?_;refine pk0 (v := v) s rfl fun _ s => ?_;refine pk (v := .int .i64 (l.length : Int)) s rfl (rn_len rfl rfl Tryz.underlying27 (hs.below hB17)) fun _ s => ?_;refine pk0 (v := .bool (decide ((i : Int) < (l.length : Int)))) s rfl fun _ s => ?_;refine pk0 (v := .bool (decide ((i : Int) < (l.length : Int)))) s rfl fun _ s => ?_;cases hc24 : (decide ((i : Int) < (l.length : Int)))
    ·
     rw [hc24] at s;have hp25 : ¬ ((i : Int) < (l.length : Int)) := of_decide_eq_false hc24;refine psk s rfl fun _ s => ?_;refine psk s rfl fun _ s => ?_;refine psk s rfl fun _ s => ?_;refine psk s rfl fun _ s => ?_;refine pk0 (v := .bool false) s rfl fun _ s => q1 ?_;refine co_false s rfl <| wp_exit <| co_thenX <| co_thenX <| qx <| q2 ?_;refine pk0 (v := .bool true) s rfl fun _ s => q4 ?_;refine co_ret1 s rfl rfl ?_;exact ⟨ret_bool (sameL_end (i := i) hL (by omega) (by omega)), hB17⟩
    rw [hc24] at s;have hp32 : (i : Int) < (l.length : Int) := of_decide_eq_true hc24;refine pk0 (v := .int .i64 (i : Int)) s rfl fun _ s => ?_;refine pk0 (v := v2) s rfl fun _ s => ?_;refine pk (v := .int .i64 (l2.length : Int)) s rfl (rn_len rfl rfl Tryz.underlying27 (hs2.below hB17)) fun _ s => ?_;refine pk0 (v := .bool (decide ((i : Int) < (l2.length : Int)))) s rfl fun _ s => ?_;refine pk0 (v := .bool (decide ((i : Int) < (l2.length : Int)))) s rfl fun _ s => q1 ?_;have hc38 : (decide ((i : Int) < (l2.length : Int))) = true := decide_eq_true (by omega);rw [hc38] at s;refine co_true s rfl <| q0 <| co_seq <| wp_block <| co_seq ?_;refine dr_eq (by kernel_rfl) (fun w39 hg40 => ?_);have hz41 := hg40.size;refine dk0 0 (v := v) s rfl rfl rfl fun _ s => ?_;refine dk0 1 (v := .int .i64 (i : Int)) s rfl rfl rfl fun _ s => ?_;have hB45 := hb_new hB17 hg40;obtain ⟨y44, hy44⟩ : ∃ z, l[i]? = some z := ⟨_, List.getElem?_eq_getElem (by first | omega | (simp; done) | (simp; omega))⟩;refine dk 2 (v := pt (blkOf v) (offOf v + i * 3)) s rfl rfl rfl (fun x hx => by subst hx; exact (rn_index rfl rfl rfl Tryz.underlying27 Tryz.sizeOf134 (hs.below hB45) (by omega) (by first | omega | (simp; done) | (simp; omega)))) fun _ s => ?_;refine dk 3 (v := .agg #[.string y44.1, .string y44.2.1, .bool y44.2.2]) s rfl rfl rfl (fun x hx => by subst hx; exact (rn_loadN rfl rfl Tryz.underlying134 rfl (by kernel_rfl) (sl_at (hs.below hB45) hy44))) fun _ s => ?_;refine dk0 4 (v := v2) s rfl rfl rfl fun _ s => ?_;refine dk0 5 (v := .int .i64 (i : Int)) s rfl rfl rfl fun _ s => ?_;obtain ⟨y50, hy50⟩ : ∃ z, l2[i]? = some z := ⟨_, List.getElem?_eq_getElem (by first | omega | (simp; done) | (simp; omega))⟩;refine dk 6 (v := pt (blkOf v2) (offOf v2 + i * 3)) s rfl rfl rfl (fun x hx => by subst hx; exact (rn_index rfl rfl rfl Tryz.underlying27 Tryz.sizeOf134 (hs2.below hB45) (by omega) (by first | omega | (simp; done) | (simp; omega)))) fun _ s => ?_;refine dk 7 (v := .agg #[.string y50.1, .string y50.2.1, .bool y50.2.2]) s rfl rfl rfl (fun x hx => by subst hx; exact (rn_loadN rfl rfl Tryz.underlying134 rfl (by kernel_rfl) (sl_at (hs2.below hB45) hy50))) fun _ s => ?_;refine dk 8 (v := .bool (!(y44.1.toList == y50.1.toList && y44.2.1.toList == y50.2.1.toList && y44.2.2 == y50.2.2))) s rfl rfl rfl (fun x hx => by subst hx; exact (rn_neS rfl rfl rfl Tryz.eqGuardType134 (eq_op _ _ _ _ _ _ _))) fun _ s => ?_;refine dr_done (by kernel_rfl) ?_;refine co_then ?_;cases hc54 : (!(y44.1.toList == y50.1.toList && y44.2.1.toList == y50.2.1.toList && y44.2.2 == y50.2.2))
    ·
     rw [hc54] at s;refine co_false s rfl <| wp_skip <| co_blockN <| co_then <| co_reg ?_;refine pk0 (v := .int .i64 (i : Int)) s rfl fun _ s => ?_;refine pk (v := .int .i64 ((i + 1 : Nat) : Int)) s rfl (rn_arith' rfl rfl rfl rfl rfl rfl (IntWalk.i64_in _ (by omega)) (by omega)) fun _ s => ?_;refine pk0 (v := .int .i64 ((i + 1 : Nat) : Int)) s rfl fun _ s => q1 ?_;refine ⟨(l.length - (i + 1)), by omega, ?_⟩;have hL' := sameL_step (i := i) hL hy44 hy50 (eqO_of (b := false) (by assumption));exact ⟨i + 1, s.sub ⟨rfl, rfl, rfl, rfl, trivial⟩, rfl, by omega, by omega, by first | rfl | exact hL', hB45⟩
    rw [hc54] at s;refine co_true s rfl <| q2 ?_;refine pk0 (v := .bool false) s rfl fun _ s => q4 <| qr <| co_thenR <| qr ?_;refine co_ret1 s rfl rfl ?_;exact ⟨ret_bool (sameL_no (i := i) hL hy44 hy50 (eqO_of (b := true) (by assumption))), hB45⟩
 rw [hc7] at s;have hp59 : (l.length : Int) ≠ (l2.length : Int) := by first | simpa using hc7 | simpa [and_assoc] using hc7
 refine co_true s rfl <| q2 ?_;refine pk0 (v := .bool false) s rfl fun _ s => q5 ?_;refine co_ret1 s rfl rfl ?_;exact ⟨ret_bool (sameL_len (by omega)), hB0⟩
set_option maxRecDepth 100000 in
theorem opsSame_any (c : Int) (r : Int) (v : Value) (l : List OpT) (c2 : Int) (r2 : Int) (v2 : Value) (l2 : List OpT) (w : World) (hs : SliceOf opE 3 w v l) (hs2 : SliceOf opE 3 w v2 l2) :
    Calls Tryz.prog 89 #[.agg #[.int .i64 c, .int .i64 r, v], .agg #[.int .i64 c2, .int .i64 r2, v2]] w fun e w' => e = .returned (.bool (sameB c r l c2 r2 l2)) ∧ Below w.heap.size w w' := by
 have hB0 := Below.refl w.heap.size w;have hl_hs := sl_len hs;have hl_hs2 := sl_len hs2;refine co_enter (n := 24) Tryz.func89 rfl rfl rfl [(0, .agg #[.int .i64 c, .int .i64 r, v]), (1, .agg #[.int .i64 c2, .int .i64 r2, v2])] rfl (fun a s => ?_);refine q2 ?_;refine pw s rfl (op_new (v := fun N => pt N 0) (T := 29) (cs := #[.int .i64 c, .int .i64 r, v]) (by kernel_rfl) (by kernel_rfl) (by kernel_rfl)) ?_;rintro _ w2 a1 ⟨N3, rfl, hN6, hz7, hk5, hg4⟩ s;have hz8 := hg4.size
 try dsimp only at s
 refine pw s rfl (op_new (v := fun N => pt N 0) (T := 29) (cs := #[.int .i64 c2, .int .i64 r2, v2]) (by kernel_rfl) (by kernel_rfl) (by kernel_rfl)) ?_;rintro _ w10 a9 ⟨N11, rfl, hN14, hz15, hk13, hg12⟩ s;have hz16 := hg12.size
 try dsimp only at s
 refine pk0 (v := .bool false) s rfl fun _ s => q3 ?_;refine pk0 (v := pt N3 0) s rfl fun _ s => ?_;have hk19 := hk5.kept hg12 (by simp);refine pk (v := .int .i64 c) s rfl (rn_load1 rfl rfl Tryz.isAgg3 (hk19.cell rfl)) fun _ s => ?_;refine pk0 (v := pt N11 0) s rfl fun _ s => ?_;refine pk (v := .int .i64 c2) s rfl (rn_load1 rfl rfl Tryz.isAgg3 (hk13.cell rfl)) fun _ s => ?_;refine pk0 (v := .bool (c == c2)) s rfl fun _ s => ?_;refine pk0 (v := .bool (c == c2)) s rfl fun _ s => ?_;have hB26 := hb_new hB0 hg4;have hB27 := hb_new hB26 hg12;cases hc25 : (c == c2)
 ·
  rw [hc25] at s;have hp28 : ¬ (c = c2) := by first | simpa using hc25 | simpa [and_assoc] using hc25
  refine psk s rfl fun _ s => ?_;refine psk s rfl fun _ s => ?_;refine psk s rfl fun _ s => ?_;refine psk s rfl fun _ s => ?_;refine psk s rfl fun _ s => ?_;refine pk0 (v := .bool false) s rfl fun _ s => ?_;refine pk0 (v := .bool false) s rfl fun _ s => ?_;refine psk s rfl fun _ s => ?_;refine psk s rfl fun _ s => ?_;refine psk s rfl fun _ s => ?_;refine psk s rfl fun _ s => ?_;refine psk s rfl fun _ s => ?_;refine pk0 (v := .bool false) s rfl fun _ s => ?_;refine pk0 (v := .bool false) s rfl fun _ s => q4 ?_;refine co_ret1 s rfl rfl ?_;exact ⟨ret_bool (sameB_n (fun hq => by omega)), hB27⟩
 rw [hc25] at s;have hp43 : c = c2 := by first | simpa using hc25 | simpa [and_assoc] using hc25
 refine pk0 (v := pt N3 1) s rfl fun _ s => ?_;refine pk (v := .int .i64 r) s rfl (rn_load1 rfl rfl Tryz.isAgg3 (hk19.cell rfl)) fun _ s => ?_;refine pk0 (v := pt N11 1) s rfl fun _ s => ?_;refine pk (v := .int .i64 r2) s rfl (rn_load1 rfl rfl Tryz.isAgg3 (hk13.cell rfl)) fun _ s => ?_;refine pk0 (v := .bool (r == r2)) s rfl fun _ s => ?_;refine pk0 (v := .bool (r == r2)) s rfl fun _ s => ?_;refine pk0 (v := .bool (r == r2)) s rfl fun _ s => ?_;cases hc51 : (r == r2)
 ·
  rw [hc51] at s;have hp52 : ¬ (r = r2) := by first | simpa using hc51 | simpa [and_assoc] using hc51
  refine psk s rfl fun _ s => ?_;refine psk s rfl fun _ s => ?_;refine psk s rfl fun _ s => ?_;refine psk s rfl fun _ s => ?_;refine psk s rfl fun _ s => ?_;refine pk0 (v := .bool false) s rfl fun _ s => ?_;refine pk0 (v := .bool false) s rfl fun _ s => q4 ?_;refine co_ret1 s rfl rfl ?_;exact ⟨ret_bool (sameB_n (fun hq => by omega)), hB27⟩
 rw [hc51] at s;have hp60 : r = r2 := by first | simpa using hc51 | simpa [and_assoc] using hc51
 refine pk0 (v := pt N3 2) s rfl fun _ s => ?_;refine pk (v := v) s rfl (rn_load1 rfl rfl Tryz.isAgg27 (hk19.cell rfl)) fun _ s => ?_;refine pk0 (v := pt N11 2) s rfl fun _ s => ?_;refine pk (v := v2) s rfl (rn_load1 rfl rfl Tryz.isAgg27 (hk13.cell rfl)) fun _ s => ?_;refine pw s rfl (op_call (args := #[v, v2]) (R := fun res xw => res = .bool (sameL l l2) ∧ Below w10.heap.size w10 xw) rfl rfl rfl (by kernel_rfl) (by kernel_rfl) (Tryz.call123 _ _) (equalOp_any v l v2 l2 w10 (hs.below hB27) (hs2.below hB27)) (by rintro e x ⟨rfl, hb67⟩; exact ⟨_, rfl, ⟨rfl, hb67⟩⟩)) ?_;rintro _ w66 a65 ⟨rfl, hb67⟩ s;have hz68 := hb67.size;refine pk0 (v := .bool (sameL l l2)) s rfl fun _ s => ?_;refine pk0 (v := .bool (sameL l l2)) s rfl fun _ s => q4 ?_;refine co_ret1 s rfl rfl ?_;have hB71 := hb_call hB27 hb67;exact ⟨ret_bool (sameB_y (by omega) (by omega)), hB71⟩
set_option maxRecDepth 100000 in
theorem ropsSame_any (c : Int) (r : Int) (v : Value) (l : List OpT) (c2 : Int) (r2 : Int) (v2 : Value) (l2 : List OpT) (w : World) (hs : SliceOf opE 3 w v l) (hs2 : SliceOf opE 3 w v2 l2) :
    Calls Tryz.prog 31 #[.agg #[.int .i64 c, .int .i64 r, v], .agg #[.int .i64 c2, .int .i64 r2, v2]] w fun e w' => e = .returned (.bool (sameB c r l c2 r2 l2)) ∧ Below w.heap.size w w' := by
 have hB0 := Below.refl w.heap.size w;have hl_hs := sl_len hs;have hl_hs2 := sl_len hs2;refine co_enter (n := 24) Tryz.func31 rfl rfl rfl [(0, .agg #[.int .i64 c, .int .i64 r, v]), (1, .agg #[.int .i64 c2, .int .i64 r2, v2])] rfl (fun a s => ?_);refine q2 ?_;refine pw s rfl (op_new (v := fun N => pt N 0) (T := 29) (cs := #[.int .i64 c, .int .i64 r, v]) (by kernel_rfl) (by kernel_rfl) (by kernel_rfl)) ?_;rintro _ w2 a1 ⟨N3, rfl, hN6, hz7, hk5, hg4⟩ s;have hz8 := hg4.size
 try dsimp only at s
 refine pw s rfl (op_new (v := fun N => pt N 0) (T := 29) (cs := #[.int .i64 c2, .int .i64 r2, v2]) (by kernel_rfl) (by kernel_rfl) (by kernel_rfl)) ?_;rintro _ w10 a9 ⟨N11, rfl, hN14, hz15, hk13, hg12⟩ s;have hz16 := hg12.size
 try dsimp only at s
 refine pk0 (v := .bool false) s rfl fun _ s => q3 ?_;refine pk0 (v := pt N3 0) s rfl fun _ s => ?_;have hk19 := hk5.kept hg12 (by simp);refine pk (v := .int .i64 c) s rfl (rn_load1 rfl rfl Tryz.isAgg3 (hk19.cell rfl)) fun _ s => ?_;refine pk0 (v := pt N11 0) s rfl fun _ s => ?_;refine pk (v := .int .i64 c2) s rfl (rn_load1 rfl rfl Tryz.isAgg3 (hk13.cell rfl)) fun _ s => ?_;refine pk0 (v := .bool (c == c2)) s rfl fun _ s => ?_;refine pk0 (v := .bool (c == c2)) s rfl fun _ s => ?_;have hB26 := hb_new hB0 hg4;have hB27 := hb_new hB26 hg12;cases hc25 : (c == c2)
 ·
  rw [hc25] at s;have hp28 : ¬ (c = c2) := by first | simpa using hc25 | simpa [and_assoc] using hc25
  refine psk s rfl fun _ s => ?_;refine psk s rfl fun _ s => ?_;refine psk s rfl fun _ s => ?_;refine psk s rfl fun _ s => ?_;refine psk s rfl fun _ s => ?_;refine pk0 (v := .bool false) s rfl fun _ s => ?_;refine pk0 (v := .bool false) s rfl fun _ s => ?_;refine psk s rfl fun _ s => ?_;refine psk s rfl fun _ s => ?_;refine psk s rfl fun _ s => ?_;refine psk s rfl fun _ s => ?_;refine psk s rfl fun _ s => ?_;refine pk0 (v := .bool false) s rfl fun _ s => ?_;refine pk0 (v := .bool false) s rfl fun _ s => q4 ?_;refine co_ret1 s rfl rfl ?_;exact ⟨ret_bool (sameB_n (fun hq => by omega)), hB27⟩
 rw [hc25] at s;have hp43 : c = c2 := by first | simpa using hc25 | simpa [and_assoc] using hc25
 refine pk0 (v := pt N3 1) s rfl fun _ s => ?_;refine pk (v := .int .i64 r) s rfl (rn_load1 rfl rfl Tryz.isAgg3 (hk19.cell rfl)) fun _ s => ?_;refine pk0 (v := pt N11 1) s rfl fun _ s => ?_;refine pk (v := .int .i64 r2) s rfl (rn_load1 rfl rfl Tryz.isAgg3 (hk13.cell rfl)) fun _ s => ?_;refine pk0 (v := .bool (r == r2)) s rfl fun _ s => ?_;refine pk0 (v := .bool (r == r2)) s rfl fun _ s => ?_;refine pk0 (v := .bool (r == r2)) s rfl fun _ s => ?_;cases hc51 : (r == r2)
 ·
  rw [hc51] at s;have hp52 : ¬ (r = r2) := by first | simpa using hc51 | simpa [and_assoc] using hc51
  refine psk s rfl fun _ s => ?_;refine psk s rfl fun _ s => ?_;refine psk s rfl fun _ s => ?_;refine psk s rfl fun _ s => ?_;refine psk s rfl fun _ s => ?_;refine pk0 (v := .bool false) s rfl fun _ s => ?_;refine pk0 (v := .bool false) s rfl fun _ s => q4 ?_;refine co_ret1 s rfl rfl ?_;exact ⟨ret_bool (sameB_n (fun hq => by omega)), hB27⟩
 rw [hc51] at s;have hp60 : r = r2 := by first | simpa using hc51 | simpa [and_assoc] using hc51
 refine pk0 (v := pt N3 2) s rfl fun _ s => ?_;refine pk (v := v) s rfl (rn_load1 rfl rfl Tryz.isAgg27 (hk19.cell rfl)) fun _ s => ?_;refine pk0 (v := pt N11 2) s rfl fun _ s => ?_;refine pk (v := v2) s rfl (rn_load1 rfl rfl Tryz.isAgg27 (hk13.cell rfl)) fun _ s => ?_;refine pw s rfl (op_call (args := #[v, v2]) (R := fun res xw => res = .bool (sameL l l2) ∧ Below w10.heap.size w10 xw) rfl rfl rfl (by kernel_rfl) (by kernel_rfl) (Tryz.call83 _ _) (rsameOps_any v l v2 l2 w10 (hs.below hB27) (hs2.below hB27)) (by rintro e x ⟨rfl, hb67⟩; exact ⟨_, rfl, ⟨rfl, hb67⟩⟩)) ?_;rintro _ w66 a65 ⟨rfl, hb67⟩ s;have hz68 := hb67.size;refine pk0 (v := .bool (sameL l l2)) s rfl fun _ s => ?_;refine pk0 (v := .bool (sameL l l2)) s rfl fun _ s => q4 ?_;refine co_ret1 s rfl rfl ?_;have hB71 := hb_call hB27 hb67;exact ⟨ret_bool (sameB_y (by omega) (by omega)), hB71⟩
set_option maxRecDepth 100000 in
theorem opsPut_any (c : Int) (r : Int) (v : Value) (l : List OpT) (w : World) (hs : SliceOf opE 3 w v l) :
    Calls Tryz.prog 61 #[.agg #[.int .i64 c, .int .i64 r, v]] w fun e w' => e = .returned (.tuple #[.string (putB c r l), .int .i64 (chkB c r l)]) ∧ Below w.heap.size w w' := by
 have hcb : chkB c r l = 0 → ((0 ≤ c ∧ c < 3) ∧ (1 ≤ r ∧ r ≤ 1073741824) ∧ l.length ≤ 4) := fun h => ⟨(chkB_ok h).1, (chkB_ok h).2.1, (chkB_ok h).2.2.1⟩;have hB0 := Below.refl w.heap.size w;have hl_hs := sl_len hs;refine co_enter (n := 46) Tryz.func61 rfl rfl rfl [(0, .agg #[.int .i64 c, .int .i64 r, v])] rfl (fun a s => ?_);refine q2 ?_;refine pw s rfl (op_new (v := fun N => pt N 0) (T := 29) (cs := #[.int .i64 c, .int .i64 r, v]) (by kernel_rfl) (by kernel_rfl) (by kernel_rfl)) ?_;rintro _ w2 a1 ⟨N3, rfl, hN6, hz7, hk5, hg4⟩ s;have hz8 := hg4.size
 try dsimp only at s
 refine pk0 (v := .string (⟨#[]⟩)) s rfl fun _ s => ?_;refine pk0 (v := .int .i64 0) s rfl fun _ s => q6 ?_;refine pk (v := .agg #[.int .i64 c, .int .i64 r, v]) s rfl (rn_loadN rfl rfl Tryz.underlying29 rfl (by kernel_rfl) hk5.all) fun _ s => ?_;have hB14 := hb_new hB0 hg4;refine pw s rfl (op_call (args := #[.agg #[.int .i64 c, .int .i64 r, v]]) (R := fun res xw => res = .int .i64 (chkB c r l) ∧ Below w2.heap.size w2 xw) rfl rfl rfl (by kernel_rfl) (by kernel_rfl) (Tryz.call72 _ _) (opsCheck_any c r v l w2 (hs.below hB14)) (by rintro e x ⟨rfl, hb15⟩; exact ⟨_, rfl, ⟨rfl, hb15⟩⟩)) ?_;rintro _ w13 a12 ⟨rfl, hb15⟩ s;have hz16 := hb15.size;refine pk0 (v := .int .i64 (chkB c r l)) s rfl fun _ s => q3 ?_;refine pk0 (v := .int .i64 (chkB c r l)) s rfl fun _ s => ?_;refine pk0 (v := .bool (chkB c r l != 0)) s rfl fun _ s => q1 ?_;have hB21 := hb_call hB14 hb15;cases hc20 : (chkB c r l != 0)
 ·
  rw [hc20] at s;have hp22 : ¬ (chkB c r l ≠ 0) := by first | simpa using hc20 | simpa [and_assoc] using hc20
  refine co_false s rfl <| q0 <| co_seq ?_;refine dr_gen (fun x => Below w.heap.size w x ∧ Blk x N3 29 #[.int .i64 c, .int .i64 r, v]) (by kernel_rfl) (fun w23 hg24 => ?_) (fun w23 hg24 => ?_)
  ·
   have hz25 := hg24.size;have hB26 := hb_new hB21 hg24;have hk27 := hk5.below hb15;have hk28 := hk27.kept hg24 (by simp);exact ⟨hB26, hk28⟩
  have hz29 := hg24.size;have hB30 := hb_new hB21 hg24;have hk31 := hk5.below hb15;have hk32 := hk31.kept hg24 (by simp);refine dk0 1 (v := pt N3 0) s rfl rfl ⟨hB30, hk32⟩ fun _ s => ?_;refine dk 2 (v := .int .i64 c) s rfl rfl ⟨hB30, hk32⟩ (fun x hx => (rn_load1 rfl rfl Tryz.isAgg3 (hx.2.cell rfl))) fun _ s => ?_;refine dk0 4 (v := pt N3 1) s rfl rfl ⟨hB30, hk32⟩ fun _ s => ?_;refine dk 5 (v := .int .i64 r) s rfl rfl ⟨hB30, hk32⟩ (fun x hx => (rn_load1 rfl rfl Tryz.isAgg3 (hx.2.cell rfl))) fun _ s => ?_;refine dk0 7 (v := pt N3 2) s rfl rfl ⟨hB30, hk32⟩ fun _ s => ?_;refine dk 8 (v := v) s rfl rfl ⟨hB30, hk32⟩ (fun x hx => (rn_load1 rfl rfl Tryz.isAgg27 (hx.2.cell rfl))) fun _ s => ?_;refine dk 9 (v := .int .i64 (l.length : Int)) s rfl rfl ⟨hB30, hk32⟩ (fun x hx => (rn_len rfl rfl Tryz.underlying27 (hs.below hx.1))) fun _ s => ?_;refine d1 0 s rfl rfl (op_call (args := #[]) (R := fun res xw => ∃ b : Nat, res = pt b 0 ∧ b = w23.heap.size ∧ OW b [] 0 xw ∧ Below w23.heap.size w23 xw) rfl rfl rfl (by kernel_rfl) (by kernel_rfl) (Tryz.call18 _ _) (ow_new w23) (by rintro e x ⟨b, rfl, h0, h1, h2⟩; exact ⟨_, rfl, b, rfl, h0, h1, h2⟩)) ?_ ?_
  ·
   rintro _ w41 ⟨b42, rfl, hN43, ho44, hb45⟩;have hz46 := hb45.size;have hl47 := ho44.lt;have hB48 := hb_call hB30 hb45;have hk49 := hk32.below hb45;exact ⟨hB48, hk49⟩
  rintro _ w41 a40 ⟨b42, rfl, hN43, ho44, hb45⟩ s;have hz46 := hb45.size;have hl47 := ho44.lt;have hB48 := hb_call hB30 hb45;have hk49 := hk32.below hb45;refine d1 3 s rfl rfl (op_call (args := #[pt b42 0, .int .i64 c]) (R := fun res xw => res = pt b42 0 ∧ OW b42 (([] : List UInt8) ++ putL c) (0 + 9) xw ∧ But (Rw w41 b42) w41 xw) rfl rfl rfl (by kernel_rfl) (by kernel_rfl) (Tryz.call19 _ _) (ow_num b42 ([]) 0 c w41 ho44 (by omega) (by omega) (by omega)) (by rintro e x ⟨rfl, h1, h2⟩; exact ⟨_, rfl, rfl, h1, h2⟩)) ?_ ?_
  ·
   rintro _ w51 ⟨rfl, ho52, hx53⟩;have hz54 := hx53.size;have hl55 := ho52.lt;have hB56 := hb_wr hB48 ho44 (by omega) hx53;have hk57 := blk_wr hk49 ho44 (by decide) (by omega) hx53;exact ⟨hB56, hk57⟩
  rintro _ w51 a50 ⟨rfl, ho52, hx53⟩ s;have hz54 := hx53.size;have hl55 := ho52.lt;have hB56 := hb_wr hB48 ho44 (by omega) hx53;have hk57 := blk_wr hk49 ho44 (by decide) (by omega) hx53;refine d1 6 s rfl rfl (op_call (args := #[pt b42 0, .int .i64 r]) (R := fun res xw => res = pt b42 0 ∧ OW b42 ((([] : List UInt8) ++ putL c) ++ putL r) (0 + 9 + 9) xw ∧ But (Rw w51 b42) w51 xw) rfl rfl rfl (by kernel_rfl) (by kernel_rfl) (Tryz.call19 _ _) (ow_num b42 (([] : List UInt8) ++ putL c) (0 + 9) r w51 ho52 (by omega) (by omega) (by omega)) (by rintro e x ⟨rfl, h1, h2⟩; exact ⟨_, rfl, rfl, h1, h2⟩)) ?_ ?_
  ·
   rintro _ w59 ⟨rfl, ho60, hx61⟩;have hz62 := hx61.size;have hl63 := ho60.lt;have hB64 := hb_wr hB56 ho52 (by omega) hx61;have hk65 := blk_wr hk57 ho52 (by decide) (by omega) hx61;exact ⟨hB64, hk65⟩
  rintro _ w59 a58 ⟨rfl, ho60, hx61⟩ s;have hz62 := hx61.size;have hl63 := ho60.lt;have hB64 := hb_wr hB56 ho52 (by omega) hx61;have hk65 := blk_wr hk57 ho52 (by decide) (by omega) hx61;refine d1 10 s rfl rfl (op_call (args := #[pt b42 0, .int .i64 (l.length : Int)]) (R := fun res xw => res = pt b42 0 ∧ OW b42 (((([] : List UInt8) ++ putL c) ++ putL r) ++ putL (l.length : Int)) (0 + 9 + 9 + 9) xw ∧ But (Rw w59 b42) w59 xw) rfl rfl rfl (by kernel_rfl) (by kernel_rfl) (Tryz.call19 _ _) (ow_num b42 ((([] : List UInt8) ++ putL c) ++ putL r) (0 + 9 + 9) (l.length : Int) w59 ho60 (by omega) (by omega) (by omega)) (by rintro e x ⟨rfl, h1, h2⟩; exact ⟨_, rfl, rfl, h1, h2⟩)) ?_ ?_
  ·
   rintro _ w67 ⟨rfl, ho68, hx69⟩;have hz70 := hx69.size;have hl71 := ho68.lt;have hB72 := hb_wr hB64 ho60 (by omega) hx69;have hk73 := blk_wr hk65 ho60 (by decide) (by omega) hx69;exact ⟨hB72, hk73⟩
  rintro _ w67 a66 ⟨rfl, ho68, hx69⟩ s;have hz70 := hx69.size;have hl71 := ho68.lt;have hB72 := hb_wr hB64 ho60 (by omega) hx69;have hk73 := blk_wr hk65 ho60 (by decide) (by omega) hx69;refine dk0 11 (v := pt b42 0) s rfl rfl ⟨hB72, hk73⟩ fun _ s => ?_;refine dr_done (by kernel_rfl) ?_;refine co_then <| q9 ?_;refine pk0 (v := pt N3 2) s rfl fun _ s => ?_;refine pk (v := v) s rfl (rn_load1 rfl rfl Tryz.isAgg27 (hk73.cell rfl)) fun _ s => ?_;refine pk (v := .int .i64 (l.length : Int)) s rfl (rn_len rfl rfl Tryz.underlying27 (hs.below hB72)) fun _ s => ?_;refine pk0 (v := .int .i64 0) s rfl fun _ s => q1 <| wp_block ?_;have hck := chkB_all (c := c) (r := r) (l := l) (by omega);have s : Slots 46 [(1, pt N3 0), (2, .string (⟨#[]⟩)), (3, .int .i64 0), (5, pt b42 0), (25, v), (26, .int .i64 (l.length : Int)), (27, .int .i64 0)] _ := s.sub ⟨rfl, rfl, rfl, rfl, rfl, rfl, rfl, trivial⟩;refine co_loop (fun mm a x => ∃ (i : Nat), Slots 46 [(1, pt N3 0), (2, .string (⟨#[]⟩)), (3, .int .i64 0), (5, pt b42 0), (25, v), (26, .int .i64 (l.length : Int)), (27, .int .i64 (i : Int))] a ∧ mm = l.length - i ∧ (i ≤ l.length) ∧ OW b42 (putH c r l ++ putOs (l.take i)) (27 + i * 35) x ∧ Below w.heap.size w x ∧ Blk x N3 29 #[.int .i64 c, .int .i64 r, v]) (l.length - 0) ?_ ?_
  · exact ⟨0, s.sub ⟨rfl, rfl, rfl, rfl, rfl, rfl, (slot_eq rfl (congrArg (Value.int .i64) (by first | rfl | omega))), trivial⟩, rfl, by omega, (ho68.eq (by first | (simp [putH, putOs]; done) | (rw [takeO_at (by assumption)]; simp [putH, putOs, putO1])) (by first | omega | (simp; done) | (simp; omega))), hB72, hk73⟩
  · rintro k80 a81 w82 ⟨i, s, rfl, hi83, hf84, hB85, hk86⟩
    have hz87 := hB85.size;have hl88 := hk86.lt;have hl89 := hf84.lt;refine q2 ?_;refine pk0 (v := .bool (decide ((i : Int) < (l.length : Int)))) s rfl fun _ s => q1 <| co_seq ?_;cases hc91 : (decide ((i : Int) < (l.length : Int)))
    ·
     rw [hc91] at s;have hp92 : ¬ ((i : Int) < (l.length : Int)) := of_decide_eq_false hc91;refine co_false s rfl <| wp_exit <| co_thenX <| co_thenX <| qx <| q2 ?_;refine pk0 (v := pt b42 0) s rfl fun _ s => ?_;refine pw s rfl (op_call (args := #[pt b42 0]) (R := fun res xw => res = .tuple #[.string (⟨(putH c r l ++ putOs (l.take i)).toArray⟩), .int .i64 0] ∧ Below w82.heap.size w82 xw) rfl rfl rfl (by kernel_rfl) (by kernel_rfl) (Tryz.call22 _ _) (ow_done b42 (putH c r l ++ putOs (l.take i)) (27 + i * 35) w82 hf84) (by rintro e x ⟨rfl, h2⟩; exact ⟨_, rfl, rfl, h2⟩)) ?_;rintro _ w95 a94 ⟨rfl, hb96⟩ s;have hz97 := hb96.size;refine pk0 (v := .string (⟨(putH c r l ++ putOs (l.take i)).toArray⟩)) s rfl fun _ s => ?_;refine pk0 (v := .int .i64 0) s rfl fun _ s => ?_;refine pk0 (v := .string (⟨(putH c r l ++ putOs (l.take i)).toArray⟩)) s rfl fun _ s => ?_;refine pk0 (v := .int .i64 0) s rfl fun _ s => q4 ?_;refine co_ret2 s rfl rfl rfl ?_;have hB102 := hb_call hB85 hb96;exact ⟨by rw [putB_ok (by omega), show chkB c r l = 0 by omega, List.take_of_length_le (show l.length ≤ i by omega)], hB102⟩
    rw [hc91] at s;have hp103 : (i : Int) < (l.length : Int) := of_decide_eq_true hc91;refine co_true s rfl <| q0 <| co_seq <| wp_block <| q2 ?_;obtain ⟨y104, hy104⟩ : ∃ z, l[i]? = some z := ⟨_, List.getElem?_eq_getElem (by first | omega | (simp; done) | (simp; omega))⟩;have oky104 := hck _ (List.mem_of_getElem? hy104);have k105 : y104.1.size ≤ 8 := oky104.1.2;have k106 : y104.2.1.size ≤ 8 := oky104.2.1;refine pk (v := pt (blkOf v) (offOf v + i * 3)) s rfl (rn_index rfl rfl rfl Tryz.underlying27 Tryz.sizeOf134 (hs.below hB85) (by omega) (by first | omega | (simp; done) | (simp; omega))) fun _ s => ?_;refine pk (v := .agg #[.string y104.1, .string y104.2.1, .bool y104.2.2]) s rfl (rn_loadN rfl rfl Tryz.underlying134 rfl (by kernel_rfl) (sl_at (hs.below hB85) hy104)) fun _ s => ?_;refine pw s rfl (op_new (v := fun N => pt N 0) (T := 134) (cs := #[.string (⟨#[]⟩), .string (⟨#[]⟩), .bool false]) (by kernel_rfl) (by kernel_rfl) (by kernel_rfl)) ?_;rintro _ w110 a109 ⟨N111, rfl, hN114, hz115, hk113, hg112⟩ s;have hz116 := hg112.size
    try dsimp only at s
    refine pwD s rfl (op_storeN rfl rfl rfl (by kernel_rfl) (by kernel_rfl) hk113 rfl) ?_;rintro _ w118 a117 ⟨hk119, hz120, hg121⟩ s;have hk119' : Blk w118 N111 134 #[.string y104.1, .string y104.2.1, .bool y104.2.2] := hk119;have hz122 := hg121.size;refine q1 ?_;refine dr_gen (fun x => Below w.heap.size w x ∧ Blk x N111 134 #[.string y104.1, .string y104.2.1, .bool y104.2.2]) (by kernel_rfl) (fun w123 hg124 => ?_) (fun w123 hg124 => ?_)
    ·
     have hz125 := hg124.size;have hB126 := hb_new hB85 hg112;have hB127 := hb_at hB126 hg121 (by omega);have hB128 := hb_new hB127 hg124;have hk129 := hk119'.kept hg124 (by simp);exact ⟨hB128, hk129⟩
    have hz130 := hg124.size;have hB131 := hb_new hB85 hg112;have hB132 := hb_at hB131 hg121 (by omega);have hB133 := hb_new hB132 hg124;have hk134 := hk119'.kept hg124 (by simp);refine dk0 0 (v := pt b42 0) s rfl rfl ⟨hB133, hk134⟩ fun _ s => ?_;refine dk0 1 (v := pt N111 0) s rfl rfl ⟨hB133, hk134⟩ fun _ s => ?_;refine dk 2 (v := .string y104.1) s rfl rfl ⟨hB133, hk134⟩ (fun x hx => (rn_load1 rfl rfl Tryz.isAgg9 (hx.2.cell rfl))) fun _ s => ?_;refine dk0 4 (v := pt N111 2) s rfl rfl ⟨hB133, hk134⟩ fun _ s => ?_;refine dk 5 (v := .bool y104.2.2) s rfl rfl ⟨hB133, hk134⟩ (fun x hx => (rn_load1 rfl rfl Tryz.isAgg4 (hx.2.cell rfl))) fun _ s => ?_;refine dk0 7 (v := pt N111 1) s rfl rfl ⟨hB133, hk134⟩ fun _ s => ?_;refine dk 8 (v := .string y104.2.1) s rfl rfl ⟨hB133, hk134⟩ (fun x hx => (rn_load1 rfl rfl Tryz.isAgg9 (hx.2.cell rfl))) fun _ s => ?_;have ho146 := hf84.new hg112;have ho147 := ho146.at hk113 (by decide) (by omega) hg121;have ho148 := ho147.new hg124;refine d1 3 s rfl rfl (op_call (args := #[pt b42 0, .string y104.1]) (R := fun res xw => res = pt b42 0 ∧ OW b42 ((putH c r l ++ putOs (l.take i)) ++ (putL (y104.1.size : Int) ++ y104.1.data.toList)) (27 + i * 35 + (9 + y104.1.size)) xw ∧ But (Rw w123 b42) w123 xw) rfl rfl rfl (by kernel_rfl) (by kernel_rfl) (Tryz.call59 _ _) (ow_text b42 (putH c r l ++ putOs (l.take i)) (27 + i * 35) y104.1 w123 ho148 (by first | omega | (simp; done) | (simp; omega))) (by rintro e x ⟨rfl, h1, h2⟩; exact ⟨_, rfl, rfl, h1, h2⟩)) ?_ ?_
    ·
     rintro _ w143 ⟨rfl, ho144, hx145⟩;have hz149 := hx145.size;have hl150 := ho144.lt;have hB151 := hb_wr hB133 ho148 (by omega) hx145;have hk152 := blk_wr hk134 ho148 (by decide) (by omega) hx145;exact ⟨hB151, hk152⟩
    rintro _ w143 a142 ⟨rfl, ho144, hx145⟩ s;have hz149 := hx145.size;have hl150 := ho144.lt;have hB151 := hb_wr hB133 ho148 (by omega) hx145;have hk152 := blk_wr hk134 ho148 (by decide) (by omega) hx145;refine d1 6 s rfl rfl (op_call (args := #[pt b42 0, .bool y104.2.2]) (R := fun res xw => res = pt b42 0 ∧ OW b42 (((putH c r l ++ putOs (l.take i)) ++ (putL (y104.1.size : Int) ++ y104.1.data.toList)) ++ [flagB y104.2.2]) (27 + i * 35 + (9 + y104.1.size) + 1) xw ∧ But (Rw w143 b42) w143 xw) rfl rfl rfl (by kernel_rfl) (by kernel_rfl) (Tryz.call57 _ _) (ow_flag b42 ((putH c r l ++ putOs (l.take i)) ++ (putL (y104.1.size : Int) ++ y104.1.data.toList)) (27 + i * 35 + (9 + y104.1.size)) y104.2.2 w143 ho144 (by omega)) (by rintro e x ⟨rfl, h1, h2⟩; exact ⟨_, rfl, rfl, h1, h2⟩)) ?_ ?_
    ·
     rintro _ w154 ⟨rfl, ho155, hx156⟩;have hz157 := hx156.size;have hl158 := ho155.lt;have hB159 := hb_wr hB151 ho144 (by omega) hx156;have hk160 := blk_wr hk152 ho144 (by decide) (by omega) hx156;exact ⟨hB159, hk160⟩
    rintro _ w154 a153 ⟨rfl, ho155, hx156⟩ s;have hz157 := hx156.size;have hl158 := ho155.lt;have hB159 := hb_wr hB151 ho144 (by omega) hx156;have hk160 := blk_wr hk152 ho144 (by decide) (by omega) hx156;refine d1 9 s rfl rfl (op_call (args := #[pt b42 0, .string y104.2.1]) (R := fun res xw => res = pt b42 0 ∧ OW b42 ((((putH c r l ++ putOs (l.take i)) ++ (putL (y104.1.size : Int) ++ y104.1.data.toList)) ++ [flagB y104.2.2]) ++ (putL (y104.2.1.size : Int) ++ y104.2.1.data.toList)) (27 + i * 35 + (9 + y104.1.size) + 1 + (9 + y104.2.1.size)) xw ∧ But (Rw w154 b42) w154 xw) rfl rfl rfl (by kernel_rfl) (by kernel_rfl) (Tryz.call59 _ _) (ow_text b42 (((putH c r l ++ putOs (l.take i)) ++ (putL (y104.1.size : Int) ++ y104.1.data.toList)) ++ [flagB y104.2.2]) (27 + i * 35 + (9 + y104.1.size) + 1) y104.2.1 w154 ho155 (by first | omega | (simp; done) | (simp; omega))) (by rintro e x ⟨rfl, h1, h2⟩; exact ⟨_, rfl, rfl, h1, h2⟩)) ?_ ?_
    ·
     rintro _ w162 ⟨rfl, ho163, hx164⟩;have hz165 := hx164.size;have hl166 := ho163.lt;have hB167 := hb_wr hB159 ho155 (by omega) hx164;have hk168 := blk_wr hk160 ho155 (by decide) (by omega) hx164;exact ⟨hB167, hk168⟩
    rintro _ w162 a161 ⟨rfl, ho163, hx164⟩ s;have hz165 := hx164.size;have hl166 := ho163.lt;refine dr_done (by kernel_rfl) ?_;refine co_blockN <| co_then <| co_reg ?_;refine pk (v := .int .i64 ((i + 1 : Nat) : Int)) s rfl (rn_arith' rfl rfl rfl rfl rfl rfl (IntWalk.i64_in _ (by omega)) (by omega)) fun _ s => ?_;refine pk0 (v := .int .i64 ((i + 1 : Nat) : Int)) s rfl fun _ s => q1 ?_;refine ⟨(l.length - (i + 1)), by omega, ?_⟩;have hB169 := hb_wr hB159 ho155 (by omega) hx164;have hk170 := hk86.kept hg112 (by simp);have hk171 := hk170.kept hg121 (by simp; omega);have hk172 := hk171.kept hg124 (by simp);have hk173 := blk_wr hk172 ho148 (by decide) (by omega) hx145;have hk174 := blk_wr hk173 ho144 (by decide) (by omega) hx156;have hk175 := blk_wr hk174 ho155 (by decide) (by omega) hx164;exact ⟨i + 1, s.sub ⟨rfl, rfl, rfl, rfl, rfl, rfl, rfl, trivial⟩, rfl, by omega, (ho163.eq (by first | (simp [putH, putOs]; done) | (rw [takeO_at (by assumption)]; simp [putH, putOs, putO1])) (by first | omega | (simp; done) | (simp; omega))), hB169, hk175⟩
 rw [hc20] at s;have hp176 : chkB c r l ≠ 0 := by first | simpa using hc20 | simpa [and_assoc] using hc20
 refine co_true s rfl <| q2 ?_;refine pk0 (v := .int .i64 (chkB c r l)) s rfl fun _ s => ?_;refine pk0 (v := .string (⟨#[]⟩)) s rfl fun _ s => ?_;refine pk0 (v := .int .i64 (chkB c r l)) s rfl fun _ s => q5 ?_;refine co_ret2 s rfl rfl rfl ?_;exact ⟨by rw [putB_err (by assumption)], hB21⟩
set_option maxRecDepth 100000 in
theorem ropsPut_any (c : Int) (r : Int) (v : Value) (l : List OpT) (w : World) (hs : SliceOf opE 3 w v l) :
    Calls Tryz.prog 69 #[.agg #[.int .i64 c, .int .i64 r, v]] w fun e w' => e = .returned (.tuple #[.string (putB c r l), .int .i64 (chkB c r l)]) ∧ Below w.heap.size w w' := by
 have hcb : chkB c r l = 0 → ((0 ≤ c ∧ c < 3) ∧ (1 ≤ r ∧ r ≤ 1073741824) ∧ l.length ≤ 4) := fun h => ⟨(chkB_ok h).1, (chkB_ok h).2.1, (chkB_ok h).2.2.1⟩;have hB0 := Below.refl w.heap.size w;have hl_hs := sl_len hs;refine co_enter (n := 62) Tryz.func69 rfl rfl rfl [(0, .agg #[.int .i64 c, .int .i64 r, v])] rfl (fun a s => ?_);refine q2 ?_;refine pw s rfl (op_new (v := fun N => pt N 0) (T := 29) (cs := #[.int .i64 c, .int .i64 r, v]) (by kernel_rfl) (by kernel_rfl) (by kernel_rfl)) ?_;rintro _ w2 a1 ⟨N3, rfl, hN6, hz7, hk5, hg4⟩ s;have hz8 := hg4.size
 try dsimp only at s
 refine pk0 (v := .string (⟨#[]⟩)) s rfl fun _ s => ?_;refine pk0 (v := .int .i64 0) s rfl fun _ s => q6 ?_;refine pk (v := .agg #[.int .i64 c, .int .i64 r, v]) s rfl (rn_loadN rfl rfl Tryz.underlying29 rfl (by kernel_rfl) hk5.all) fun _ s => ?_;have hB14 := hb_new hB0 hg4;refine pw s rfl (op_call (args := #[.agg #[.int .i64 c, .int .i64 r, v]]) (R := fun res xw => res = .int .i64 (chkB c r l) ∧ Below w2.heap.size w2 xw) rfl rfl rfl (by kernel_rfl) (by kernel_rfl) (Tryz.call80 _ _) (ropsCheck_any c r v l w2 (hs.below hB14)) (by rintro e x ⟨rfl, hb15⟩; exact ⟨_, rfl, ⟨rfl, hb15⟩⟩)) ?_;rintro _ w13 a12 ⟨rfl, hb15⟩ s;have hz16 := hb15.size;refine pk0 (v := .int .i64 (chkB c r l)) s rfl fun _ s => q3 ?_;refine pk0 (v := .int .i64 (chkB c r l)) s rfl fun _ s => ?_;refine pk0 (v := .bool (chkB c r l != 0)) s rfl fun _ s => q1 ?_;have hB21 := hb_call hB14 hb15;cases hc20 : (chkB c r l != 0)
 ·
  rw [hc20] at s;have hp22 : ¬ (chkB c r l ≠ 0) := by first | simpa using hc20 | simpa [and_assoc] using hc20
  refine co_false s rfl <| q7 ?_;refine pk0 (v := .agg #[.string (⟨#[]⟩), .int .i64 0]) s rfl fun _ s => ?_;refine pw s rfl (op_new (v := fun N => pt N 0) (T := 60) (cs := #[.string (⟨#[]⟩), .int .i64 0]) (by kernel_rfl) (by kernel_rfl) (by kernel_rfl)) ?_;rintro _ w25 a24 ⟨N26, rfl, hN29, hz30, hk28, hg27⟩ s;have hz31 := hg27.size
  try dsimp only at s
  refine pk0 (v := pt N26 0) s rfl fun _ s => q3 ?_;refine pk0 (v := pt N26 0) s rfl fun _ s => ?_;refine pk0 (v := pt N3 0) s rfl fun _ s => ?_;have hk35 := hk5.below hb15;have hk36 := hk35.kept hg27 (by simp);refine pk (v := .int .i64 c) s rfl (rn_load1 rfl rfl Tryz.isAgg3 (hk36.cell rfl)) fun _ s => ?_;have ho40 := ox_of hk28;refine pw s rfl (op_call (args := #[pt N26 0, .int .i64 c]) (R := fun res xw => res = .tuple #[] ∧ OX N26 (([] : List UInt8) ++ putL c) (0 + 9) xw ∧ w25.grownBy xw (some N26)) rfl rfl rfl (by kernel_rfl) (by kernel_rfl) (Tryz.call23 _ _) (ox_num N26 ([]) 0 c w25 ho40 (by omega) (by omega) (by omega)) (by rintro e x ⟨rfl, h1, h2⟩; exact ⟨_, rfl, rfl, h1, h2⟩)) ?_;rintro _ w39 a38 ⟨rfl, ho41, hx42⟩ s;have hz43 := hx42.size;have hl44 := ho41.lt;refine q3 ?_;refine pk0 (v := pt N26 0) s rfl fun _ s => ?_;refine pk0 (v := pt N3 1) s rfl fun _ s => ?_;have hk47 := hk36.kept hx42 (by simp; omega);refine pk (v := .int .i64 r) s rfl (rn_load1 rfl rfl Tryz.isAgg3 (hk47.cell rfl)) fun _ s => ?_;refine pw s rfl (op_call (args := #[pt N26 0, .int .i64 r]) (R := fun res xw => res = .tuple #[] ∧ OX N26 ((([] : List UInt8) ++ putL c) ++ putL r) (0 + 9 + 9) xw ∧ w39.grownBy xw (some N26)) rfl rfl rfl (by kernel_rfl) (by kernel_rfl) (Tryz.call23 _ _) (ox_num N26 (([] : List UInt8) ++ putL c) (0 + 9) r w39 ho41 (by omega) (by omega) (by omega)) (by rintro e x ⟨rfl, h1, h2⟩; exact ⟨_, rfl, rfl, h1, h2⟩)) ?_;rintro _ w50 a49 ⟨rfl, ho51, hx52⟩ s;have hz53 := hx52.size;have hl54 := ho51.lt;refine q3 ?_;refine pk0 (v := pt N26 0) s rfl fun _ s => ?_;refine pk0 (v := pt N3 2) s rfl fun _ s => ?_;have hk57 := hk47.kept hx52 (by simp; omega);refine pk (v := v) s rfl (rn_load1 rfl rfl Tryz.isAgg27 (hk57.cell rfl)) fun _ s => ?_;have hB59 := hb_new hB21 hg27;have hB60 := hb_at hB59 hx42 (by omega);have hB61 := hb_at hB60 hx52 (by omega);refine pk (v := .int .i64 (l.length : Int)) s rfl (rn_len rfl rfl Tryz.underlying27 (hs.below hB61)) fun _ s => ?_;refine pw s rfl (op_call (args := #[pt N26 0, .int .i64 (l.length : Int)]) (R := fun res xw => res = .tuple #[] ∧ OX N26 (((([] : List UInt8) ++ putL c) ++ putL r) ++ putL (l.length : Int)) (0 + 9 + 9 + 9) xw ∧ w50.grownBy xw (some N26)) rfl rfl rfl (by kernel_rfl) (by kernel_rfl) (Tryz.call23 _ _) (ox_num N26 ((([] : List UInt8) ++ putL c) ++ putL r) (0 + 9 + 9) (l.length : Int) w50 ho51 (by omega) (by omega) (by omega)) (by rintro e x ⟨rfl, h1, h2⟩; exact ⟨_, rfl, rfl, h1, h2⟩)) ?_;rintro _ w64 a63 ⟨rfl, ho65, hx66⟩ s;have hz67 := hx66.size;have hl68 := ho65.lt;refine q6 ?_;refine pk0 (v := .int .i64 0) s rfl fun _ s => q1 <| wp_block ?_;have hck := chkB_all (c := c) (r := r) (l := l) (by omega);have s : Slots 62 [(1, pt N3 0), (2, .string (⟨#[]⟩)), (3, .int .i64 0), (5, pt N26 0), (6, .int .i64 0)] _ := s.sub ⟨rfl, rfl, rfl, rfl, rfl, trivial⟩;refine co_loop (fun mm a x => ∃ (i : Nat), Slots 62 [(1, pt N3 0), (2, .string (⟨#[]⟩)), (3, .int .i64 0), (5, pt N26 0), (6, .int .i64 (i : Int))] a ∧ mm = l.length - i ∧ (i ≤ l.length) ∧ OX N26 (putH c r l ++ putOs (l.take i)) (27 + i * 35) x ∧ Below w.heap.size w x ∧ Blk x N3 29 #[.int .i64 c, .int .i64 r, v]) (l.length - 0) ?_ ?_;have hB71 := hb_at hB61 hx66 (by omega);have hk72 := hk57.kept hx66 (by simp; omega)
  · exact ⟨0, s.sub ⟨rfl, rfl, rfl, rfl, (slot_eq rfl (congrArg (Value.int .i64) (by first | rfl | omega))), trivial⟩, rfl, by omega, (ho65.eq (by first | (simp [putH, putOs]; done) | (rw [takeO_at (by assumption)]; simp [putH, putOs, putO1])) (by first | omega | (simp; done) | (simp; omega))), hB71, hk72⟩
  · rintro k73 a74 w75 ⟨i, s, rfl, hi76, hf77, hB78, hk79⟩
    have hz80 := hB78.size;have hl81 := hk79.lt;have hl82 := hf77.lt;refine q9 ?_;refine pk0 (v := .int .i64 (i : Int)) s rfl fun _ s => ?_;refine pk0 (v := pt N3 2) s rfl fun _ s => ?_;refine pk (v := v) s rfl (rn_load1 rfl rfl Tryz.isAgg27 (hk79.cell rfl)) fun _ s => ?_;refine pk (v := .int .i64 (l.length : Int)) s rfl (rn_len rfl rfl Tryz.underlying27 (hs.below hB78)) fun _ s => ?_;refine pk0 (v := .bool (decide ((i : Int) < (l.length : Int)))) s rfl fun _ s => q1 ?_;cases hc88 : (decide ((i : Int) < (l.length : Int)))
    ·
     rw [hc88] at s;have hp89 : ¬ ((i : Int) < (l.length : Int)) := of_decide_eq_false hc88;refine co_false s rfl <| wp_exit <| co_thenX <| co_thenX <| qx <| q2 ?_;refine pk0 (v := pt N26 0) s rfl fun _ s => ?_;refine pw s rfl (op_call (args := #[pt N26 0]) (R := fun res xw => res = .tuple #[.string (⟨(putH c r l ++ putOs (l.take i)).toArray⟩), .int .i64 0] ∧ Below w75.heap.size w75 xw) rfl rfl rfl (by kernel_rfl) (by kernel_rfl) (Tryz.call26 _ _) (ox_done N26 (putH c r l ++ putOs (l.take i)) (27 + i * 35) w75 hf77) (by rintro e x ⟨rfl, h2⟩; exact ⟨_, rfl, rfl, h2⟩)) ?_;rintro _ w92 a91 ⟨rfl, hb93⟩ s;have hz94 := hb93.size;refine pk0 (v := .string (⟨(putH c r l ++ putOs (l.take i)).toArray⟩)) s rfl fun _ s => ?_;refine pk0 (v := .int .i64 0) s rfl fun _ s => ?_;refine pk0 (v := .string (⟨(putH c r l ++ putOs (l.take i)).toArray⟩)) s rfl fun _ s => ?_;refine pk0 (v := .int .i64 0) s rfl fun _ s => q4 ?_;refine co_ret2 s rfl rfl rfl ?_;have hB99 := hb_call hB78 hb93;exact ⟨by rw [putB_ok (by omega), show chkB c r l = 0 by omega, List.take_of_length_le (show l.length ≤ i by omega)], hB99⟩
    rw [hc88] at s;have hp100 : (i : Int) < (l.length : Int) := of_decide_eq_true hc88;refine co_true s rfl <| q0 <| co_seq <| wp_block <| q2 ?_;refine pk0 (v := pt N26 0) s rfl fun _ s => ?_;refine pk0 (v := pt N3 2) s rfl fun _ s => ?_;refine pk (v := v) s rfl (rn_load1 rfl rfl Tryz.isAgg27 (hk79.cell rfl)) fun _ s => ?_;refine pk0 (v := .int .i64 (i : Int)) s rfl fun _ s => ?_;obtain ⟨y105, hy105⟩ : ∃ z, l[i]? = some z := ⟨_, List.getElem?_eq_getElem (by first | omega | (simp; done) | (simp; omega))⟩;have oky105 := hck _ (List.mem_of_getElem? hy105);have k106 : y105.1.size ≤ 8 := oky105.1.2;have k107 : y105.2.1.size ≤ 8 := oky105.2.1;refine pk (v := pt (blkOf v) (offOf v + i * 3)) s rfl (rn_index rfl rfl rfl Tryz.underlying27 Tryz.sizeOf134 (hs.below hB78) (by omega) (by first | omega | (simp; done) | (simp; omega))) fun _ s => ?_;refine pk0 (v := pt (blkOf v) (offOf v + i * 3)) s rfl fun _ s => ?_;refine pk (v := .string y105.1) s rfl (rn_load1 rfl rfl Tryz.isAgg9 ((sl_at (hs.below hB78) hy105) 0 _ rfl)) fun _ s => ?_;refine pw s rfl (op_call (args := #[pt N26 0, .string y105.1]) (R := fun res xw => res = .tuple #[] ∧ OX N26 ((putH c r l ++ putOs (l.take i)) ++ (putL (y105.1.size : Int) ++ y105.1.data.toList)) (27 + i * 35 + (9 + y105.1.size)) xw ∧ w75.grownBy xw (some N26)) rfl rfl rfl (by kernel_rfl) (by kernel_rfl) (Tryz.call67 _ _) (ox_text N26 (putH c r l ++ putOs (l.take i)) (27 + i * 35) y105.1 w75 hf77 (by first | omega | (simp; done) | (simp; omega))) (by rintro e x ⟨rfl, h1, h2⟩; exact ⟨_, rfl, rfl, h1, h2⟩)) ?_;rintro _ w112 a111 ⟨rfl, ho113, hx114⟩ s;have hz115 := hx114.size;have hl116 := ho113.lt;refine q3 ?_;refine pk0 (v := pt N26 0) s rfl fun _ s => ?_;refine pk0 (v := pt N3 2) s rfl fun _ s => ?_;have hk119 := hk79.kept hx114 (by simp; omega);refine pk (v := v) s rfl (rn_load1 rfl rfl Tryz.isAgg27 (hk119.cell rfl)) fun _ s => ?_;refine pk0 (v := .int .i64 (i : Int)) s rfl fun _ s => ?_;have hB122 := hb_at hB78 hx114 (by omega);refine pk (v := pt (blkOf v) (offOf v + i * 3)) s rfl (rn_index rfl rfl rfl Tryz.underlying27 Tryz.sizeOf134 (hs.below hB122) (by omega) (by first | omega | (simp; done) | (simp; omega))) fun _ s => ?_;refine pk0 (v := pt (blkOf v) (offOf v + i * 3 + 2)) s rfl fun _ s => ?_;refine pk (v := .bool y105.2.2) s rfl (rn_load1 rfl rfl Tryz.isAgg4 ((sl_at (hs.below hB122) hy105) 2 _ rfl)) fun _ s => ?_;refine pw s rfl (op_call (args := #[pt N26 0, .bool y105.2.2]) (R := fun res xw => res = .tuple #[] ∧ OX N26 (((putH c r l ++ putOs (l.take i)) ++ (putL (y105.1.size : Int) ++ y105.1.data.toList)) ++ [flagB y105.2.2]) (27 + i * 35 + (9 + y105.1.size) + 1) xw ∧ w112.grownBy xw (some N26)) rfl rfl rfl (by kernel_rfl) (by kernel_rfl) (Tryz.call66 _ _) (ox_flag N26 ((putH c r l ++ putOs (l.take i)) ++ (putL (y105.1.size : Int) ++ y105.1.data.toList)) (27 + i * 35 + (9 + y105.1.size)) y105.2.2 w112 ho113 (by omega)) (by rintro e x ⟨rfl, h1, h2⟩; exact ⟨_, rfl, rfl, h1, h2⟩)) ?_;rintro _ w127 a126 ⟨rfl, ho128, hx129⟩ s;have hz130 := hx129.size;have hl131 := ho128.lt;refine q1 <| co_reg ?_;refine pk0 (v := pt N26 0) s rfl fun _ s => ?_;refine pk0 (v := pt N3 2) s rfl fun _ s => ?_;have hk134 := hk119.kept hx129 (by simp; omega);refine pk (v := v) s rfl (rn_load1 rfl rfl Tryz.isAgg27 (hk134.cell rfl)) fun _ s => ?_;refine pk0 (v := .int .i64 (i : Int)) s rfl fun _ s => ?_;have hB137 := hb_at hB122 hx129 (by omega);refine pk (v := pt (blkOf v) (offOf v + i * 3)) s rfl (rn_index rfl rfl rfl Tryz.underlying27 Tryz.sizeOf134 (hs.below hB137) (by omega) (by first | omega | (simp; done) | (simp; omega))) fun _ s => ?_;refine pk0 (v := pt (blkOf v) (offOf v + i * 3 + 1)) s rfl fun _ s => ?_;refine pk (v := .string y105.2.1) s rfl (rn_load1 rfl rfl Tryz.isAgg9 ((sl_at (hs.below hB137) hy105) 1 _ rfl)) fun _ s => ?_;refine pw s rfl (op_call (args := #[pt N26 0, .string y105.2.1]) (R := fun res xw => res = .tuple #[] ∧ OX N26 ((((putH c r l ++ putOs (l.take i)) ++ (putL (y105.1.size : Int) ++ y105.1.data.toList)) ++ [flagB y105.2.2]) ++ (putL (y105.2.1.size : Int) ++ y105.2.1.data.toList)) (27 + i * 35 + (9 + y105.1.size) + 1 + (9 + y105.2.1.size)) xw ∧ w127.grownBy xw (some N26)) rfl rfl rfl (by kernel_rfl) (by kernel_rfl) (Tryz.call67 _ _) (ox_text N26 (((putH c r l ++ putOs (l.take i)) ++ (putL (y105.1.size : Int) ++ y105.1.data.toList)) ++ [flagB y105.2.2]) (27 + i * 35 + (9 + y105.1.size) + 1) y105.2.1 w127 ho128 (by first | omega | (simp; done) | (simp; omega))) (by rintro e x ⟨rfl, h1, h2⟩; exact ⟨_, rfl, rfl, h1, h2⟩)) ?_;rintro _ w142 a141 ⟨rfl, ho143, hx144⟩ s;have hz145 := hx144.size;have hl146 := ho143.lt;refine pl_nil <| co_blockN <| co_then <| co_reg ?_;refine pk0 (v := .int .i64 (i : Int)) s rfl fun _ s => ?_;refine pk (v := .int .i64 ((i + 1 : Nat) : Int)) s rfl (rn_arith' rfl rfl rfl rfl rfl rfl (IntWalk.i64_in _ (by omega)) (by omega)) fun _ s => ?_;refine pk0 (v := .int .i64 ((i + 1 : Nat) : Int)) s rfl fun _ s => q1 ?_;refine ⟨(l.length - (i + 1)), by omega, ?_⟩;have hB150 := hb_at hB137 hx144 (by omega);have hk151 := hk134.kept hx144 (by simp; omega);exact ⟨i + 1, s.sub ⟨rfl, rfl, rfl, rfl, rfl, trivial⟩, rfl, by omega, (ho143.eq (by first | (simp [putH, putOs]; done) | (rw [takeO_at (by assumption)]; simp [putH, putOs, putO1])) (by first | omega | (simp; done) | (simp; omega))), hB150, hk151⟩
 rw [hc20] at s;have hp152 : chkB c r l ≠ 0 := by first | simpa using hc20 | simpa [and_assoc] using hc20
 refine co_true s rfl <| q2 ?_;refine pk0 (v := .int .i64 (chkB c r l)) s rfl fun _ s => ?_;refine pk0 (v := .string (⟨#[]⟩)) s rfl fun _ s => ?_;refine pk0 (v := .int .i64 (chkB c r l)) s rfl fun _ s => q5 ?_;refine co_ret2 s rfl rfl rfl ?_;exact ⟨by rw [putB_err (by assumption)], hB21⟩
end Go.Proofs.YtcbagajjgbfgdaaGreat

/- Package ops: Of of both. Conditions: none. -/
namespace Go.Proofs.YtcbagajjgbfgdaaGreat
open Go.RowKit Go.PlainAid
set_option linter.unusedVariables false


/-- What Of reads: one operation more, n of them; a batch. -/
def rdStep (s : ByteArray) (q : List OpT × Int × Int) : List OpT × Int × Int :=
  let t := textR s q.2.1 q.2.2 8
  let f := flagR s t.2.1.toNat t.2.2
  let u := textR s f.2.1 f.2.2 8
  (q.1 ++ [(t.1, u.1, f.1)], u.2.1, u.2.2)
def rdN (s : ByteArray) : Nat → List OpT × Int × Int → List OpT × Int × Int
  | 0, q => q
  | n + 1, q => rdStep s (rdN s n q)
def ofEnd (c r : Int) (l : List OpT) (x : Int) : (Int × Int × List OpT) × Int :=
  if x ≠ 0 then ((0, 0, []), x) else if chkB c r l ≠ 0 then ((0, 0, []), chkB c r l) else ((c, r, l), 0)
def ofB (s : ByteArray) : (Int × Int × List OpT) × Int :=
  let c := numR s 0 0 2
  let r := numR s c.2.1 c.2.2 1073741824
  let n := numR s r.2.1 r.2.2 4
  let q := rdN s n.1.toNat ([], n.2.1, n.2.2)
  ofEnd c.1 r.1 q.1 (endV s q.2.1.toNat q.2.2)
end Go.Proofs.YtcbagajjgbfgdaaGreat

/- Readers: big numbers, the error so far. Conditions: none. -/
namespace Go.Proofs.YtcbagajjgbfgdaaGreat
open Go.RowKit Go.PlainAid
set_option linter.unusedVariables false
section
variable {w x : World} {b N : Nat} {s : ByteArray} {a e : Int}
theorem getR_lt (s : ByteArray) (a : Int) : (getR s a).1 < 18446744073709551616 := by
  unfold getR
  have hb2 := bt_le s a.toNat
  split
  · decide
  split
  · decide
  split
  · show bt s a.toNat < _; omega
  split
  · decide
  split
  · show val s (a.toNat + 1) (bt s a.toNat - 247).toNat < _
    have h1 := val_lt s (a.toNat + 1) (bt s a.toNat - 247).toNat
    have hk : (bt s a.toNat - 247).toNat ≤ 8 := by omega
    have h2 : (256 : Nat) ^ (bt s a.toNat - 247).toNat ≤ 256 ^ 8 := Nat.pow_le_pow_right (by decide) hk
    have h3 : ((256 : Int) ^ (bt s a.toNat - 247).toNat) = ((256 ^ (bt s a.toNat - 247).toNat : Nat) : Int) := by rw [Int.natCast_pow]; rfl
    have h4 : (256 : Nat) ^ 8 = 18446744073709551616 := by decide
    omega
  · decide
theorem bigR_le {s : ByteArray} {a x : Int} : 0 ≤ (bigR s a x).1 ∧ (bigR s a x).1 < 18446744073709551616 := by
  have h1 := getR_range s a
  have h2 := getR_lt s a
  unfold bigR
  split
  · exact ⟨Int.le_refl _, by show (0 : Int) < _; decide⟩
  · dsimp only
    split
    · exact ⟨h1, h2⟩
    · exact ⟨Int.le_refl _, by decide⟩
theorem or_big (b : Nat) (s : ByteArray) (a e : Int) (w : World) (h : OR b s a e w) (hs : s.size ≤ 9223372036854775807) :
    Calls Tryz.prog 98 #[.pointer (some ⟨b, 0, none⟩)] w fun e1 w' => ∃ n a' e', e1 = .returned (.int .u64 n) ∧ bigR s a e = (n, a', e') ∧ 0 ≤ n ∧ n < 18446744073709551616 ∧ OR b s a' e' w' ∧ w.grownBy w' (some b) :=
  (rBig_re b s a e w h.re hs).mono (by
    rintro e1 x ⟨rfl, hw, hb⟩
    exact ⟨_, _, _, rfl, rfl, bigR_le.1, bigR_le.2, ⟨hw, bigR_at⟩, but_grown hb⟩)
theorem or_err (b : Nat) (s : ByteArray) (a e : Int) (w : World) (h : OR b s a e w) :
    Calls Tryz.prog 48 #[.pointer (some ⟨b, 0, none⟩)] w fun e1 w' => e1 = .returned (.int .i64 e) ∧ w = w' := err_re b s a e w h.re
end
end Go.Proofs.YtcbagajjgbfgdaaGreat

/- Stores into a part of a block; walks that may turn some blocks that were there (S). Conditions: none. -/
namespace Go.Proofs.YtcbagajjgbfgdaaGreat
open Go.RowKit
set_option linter.unusedVariables false

section
variable {P : Program} {n : Nat} {m : List (Nat × Value)} {w x w0 : World} {o : Oper} {N : Nat} {T : TypeId} {cs : Array Value} {S : Nat → Prop}
theorem op_storePart {t : TypeId} {p q : Operand} {cells cs' : Array Value} {k : Nat} (ho : o.op = .store t p q) (hp : ev m p = some (.pointer (some ⟨N, k, none⟩))) (hq : ev m q = some (.agg cells)) (h1 : cells.all (·.oneCell') = true) (hi : (P.info? t).map (·.size) = some cells.size)
    (hb : Blk w N T cs) (hk : Nat.ble (k + cells.size) cs.size = true) (he : (cs.toList.take k ++ cells.toList ++ cs.toList.drop (k + cells.size)).toArray = cs') : Op1 P n m o w (fun _ x => Blk x N T cs' ∧ x.heap.size = w.heap.size ∧ w.grownBy x (some N)) := by
  intro a ha K Q hN
  have hk' : k + cells.size ≤ cs.size := by simpa using hk
  have hthere : w.there N k cells.size := fun j hj => ⟨by rw [hb.cell (k := k + j) (v := cs[k + j]'(by omega)) (by rw [Array.getElem?_eq_getElem])]; rfl, hb.frozen _⟩
  refine wp_store_mid t p q ho N k cells (ha.ev hp) (ha.ev hq) hthere hi h1 (hN _ _ ⟨?_, ?_, ?_⟩)
  · have := setCells_blk cells.toList w cs k hb (by simpa using hk')
    simp only [Array.length_toList] at this
    rw [he] at this; exact this
  · have hsz : ∀ (vs : List Value) (k : Nat) (w : World), (w.setCells N k vs).heap.size = w.heap.size := by
      intro vs
      induction vs with
      | nil => intro k w; rfl
      | cons v r ih => intro k w; rw [World.setCells, ih]; simp [World.setCell]
    exact hsz _ _ _
  · have hg : ∀ (vs : List Value) (k : Nat) (w : World), w.grownBy (w.setCells N k vs) (some N) := by
      intro vs
      induction vs with
      | nil => intro k w; exact World.grownBy.refl _ _
      | cons v r ih => intro k w; rw [World.setCells]; exact (grown_setCell w N k v).trans (ih _ _)
    exact hg _ _ _
theorem fb_new (h : But S w0 w) (hg : w.grownBy x none) : But S w0 x := h.trans (But.of_below (grown_below hg))
theorem fb_call (h : But S w0 w) (hb : Below w.heap.size w x) : But S w0 x := h.trans (But.of_below hb)
theorem fb_at (h : But S w0 w) (hg : w.grownBy x (some N)) (hN : N < w0.heap.size → S N) : But S w0 x :=
  h.trans' (S' := fun k => some N = some k) (grown_but hg) (fun i hi e => by cases e; exact hN hi)
theorem fb_foot {S' : Nat → Prop} (h : But S w0 w) (hb : But S' w x) (hs : ∀ i, i < w0.heap.size → S' i → S i) : But S w0 x := h.trans' hb hs
theorem hb_foot {S' : Nat → Prop} (h : Below w0.heap.size w0 w) (hb : But S' w x) (hs : ∀ i, i < w.heap.size → S' i → w0.heap.size ≤ i) : Below w0.heap.size w0 x := below_but h hb h.size hs
theorem Blk.but (h : Blk w N T cs) (hb : But S w x) (hn : ¬ S N) : Blk x N T cs := by
  have hl := h.lt
  unfold Blk at h ⊢
  rw [hb.block N hl hn]; exact h
theorem own_but {B sz k : Nat} {e : TypeId} {v : Value} {xs : List Value} (h : w.ownsRow B e sz v k xs) (hb : But S w x) (hn : ∀ i, v.ownBlock = some i → ¬ S i) : x.ownsRow B e sz v k xs := by
  obtain ⟨h1, h2⟩ := h
  refine ⟨h1, ?_⟩
  rcases h2 with h2 | ⟨g, cap, cur, hv, hg, hh, r⟩
  · exact Or.inl h2
  · exact Or.inr ⟨g, cap, cur, hv, hg, by rw [hb.block g (Array.getElem?_eq_some_iff.1 hh).1 (hn g (by rw [hv]; rfl))]; exact hh, r⟩
theorem OR.but {b : Nat} {s : ByteArray} {a e : Int} (h : OR b s a e w) (hb : But S w x) (hn : ¬ S b) : OR b s a e x := ⟨h.re.but hb hn, h.pos⟩
theorem OXR.but {b : Nat} {s : ByteArray} {a e : Int} (h : OXR b s a e w) (hb : But S w x) (hn : ¬ S b) : OXR b s a e x := ⟨h.re.but hb hn, h.pos⟩
theorem OX.but {b : Nat} {l : List UInt8} {mm : Nat} (h : OX b l mm w) (hb : But S w x) (hn : ¬ S b) : OX b l mm x := ⟨h.wr.but hb hn, h.len⟩
end
end Go.Proofs.YtcbagajjgbfgdaaGreat

/- Package conf: the contracts once more, for packages over it; Put, Of. Conditions: none. -/
namespace Go.Proofs.YtcbagajjgbfgdaaGreat
open Go.RowKit Go.PlainAid
set_option linter.unusedVariables false


theorem memE_len (y : MemT) : (memE y).length = 2 := rfl
theorem memE_one (y : MemT) : ∀ u ∈ memE y, u.oneCell' = true := by intro u hu; simp [memE] at hu; rcases hu with rfl | rfl <;> rfl
def sameCf (ep : Int) (ms : List MemT) (fl ep2 : Int) (ms2 : List MemT) (fl2 : Int) : Bool := decide (ep = ep2 ∧ fl = fl2 ∧ ms = ms2)
theorem sameCf_refl (ep : Int) (ms : List MemT) (fl : Int) : sameCf ep ms fl ep ms fl = true := by unfold sameCf; simp
def putCf (ep : Int) (ms : List MemT) (fl : Int) : ByteArray := if chkC ep ms = 0 then ⟨(putC ep ms fl).toArray⟩ else ⟨#[]⟩
theorem putCf_ok {ep fl : Int} {ms : List MemT} (h : chkC ep ms = 0) : putCf ep ms fl = ⟨(putC ep ms fl).toArray⟩ := by unfold putCf; rw [if_pos h]
theorem putCf_err {ep fl : Int} {ms : List MemT} (h : chkC ep ms ≠ 0) : putCf ep ms fl = ⟨#[]⟩ := by unfold putCf; rw [if_neg h]
theorem putCf_small {ep fl : Int} {ms : List MemT} : (putCf ep ms fl).size ≤ 200 := by
  by_cases h : chkC ep ms = 0
  · rw [putCf_ok h]
    show (putC ep ms fl).length ≤ _
    have h1 := putL_le ep; have h2 := putL_le (ms.length : Int); have h3 := putM_len ms; have h4 := putL_le fl; have h5 := (chkC_ok h).2.1
    unfold putC; simp only [List.length_append]; omega
  · rw [putCf_err h]; decide
theorem takeM_at {α : Type} {l : List α} {i : Nat} {y : α} (h : l[i]? = some y) : l.take (i + 1) = l.take i ++ [y] := by
  rw [List.take_add_one, h]; rfl
def ofC (s : ByteArray) : (Int × List MemT × Int) × Int := if ofErr s = 0 then (((ofAll s).1, (ofAll s).2.1, (ofAll s).2.2.1), 0) else ((0, [], 0), ofErr s)
theorem wcheck_any (ep : Int) (mv : Value) (ms : List MemT) (fl : Int) (w : World) (hs : SliceOf memE 2 w mv ms) (hmk : ∀ m ∈ ms, memOk m) (he : -9223372036854775808 ≤ ep ∧ ep ≤ 9223372036854775807) (hf : 0 ≤ fl ∧ fl < 18446744073709551616) :
    Calls Tryz.prog 71 #[.agg #[.int .i64 ep, mv, .int .u64 fl]] w fun e w' => e = .returned (.int .i64 (chkC ep ms)) ∧ Below w.heap.size w w' := check_any ⟨ep, mv, ms, fl⟩ w ⟨hs, hmk, he.1, he.2, hf.1, hf.2⟩
theorem wrcheck_any (ep : Int) (mv : Value) (ms : List MemT) (fl : Int) (w : World) (hs : SliceOf memE 2 w mv ms) (hmk : ∀ m ∈ ms, memOk m) (he : -9223372036854775808 ≤ ep ∧ ep ≤ 9223372036854775807) (hf : 0 ≤ fl ∧ fl < 18446744073709551616) :
    Calls Tryz.prog 79 #[.agg #[.int .i64 ep, mv, .int .u64 fl]] w fun e w' => e = .returned (.int .i64 (chkC ep ms)) ∧ Below w.heap.size w w' := rcheck_any ⟨ep, mv, ms, fl⟩ w ⟨hs, hmk, he.1, he.2, hf.1, hf.2⟩
theorem wsame_any (ep : Int) (mv : Value) (ms : List MemT) (fl : Int) (ep2 : Int) (mv2 : Value) (ms2 : List MemT) (fl2 : Int) (w : World) (hs : SliceOf memE 2 w mv ms) (hmk : ∀ m ∈ ms, memOk m) (he : -9223372036854775808 ≤ ep ∧ ep ≤ 9223372036854775807) (hf : 0 ≤ fl ∧ fl < 18446744073709551616) (hs2 : SliceOf memE 2 w mv2 ms2) (hmk2 : ∀ m ∈ ms2, memOk m) (he2 : -9223372036854775808 ≤ ep2 ∧ ep2 ≤ 9223372036854775807) (hf2 : 0 ≤ fl2 ∧ fl2 < 18446744073709551616) :
    Calls Tryz.prog 88 #[.agg #[.int .i64 ep, mv, .int .u64 fl], .agg #[.int .i64 ep2, mv2, .int .u64 fl2]] w fun e w' => e = .returned (.bool (sameCf ep ms fl ep2 ms2 fl2)) ∧ Below w.heap.size w w' := same_any ⟨ep, mv, ms, fl⟩ ⟨ep2, mv2, ms2, fl2⟩ w ⟨hs, hmk, he.1, he.2, hf.1, hf.2⟩ ⟨hs2, hmk2, he2.1, he2.2, hf2.1, hf2.2⟩
theorem wrsame_any (ep : Int) (mv : Value) (ms : List MemT) (fl : Int) (ep2 : Int) (mv2 : Value) (ms2 : List MemT) (fl2 : Int) (w : World) (hs : SliceOf memE 2 w mv ms) (hmk : ∀ m ∈ ms, memOk m) (he : -9223372036854775808 ≤ ep ∧ ep ≤ 9223372036854775807) (hf : 0 ≤ fl ∧ fl < 18446744073709551616) (hs2 : SliceOf memE 2 w mv2 ms2) (hmk2 : ∀ m ∈ ms2, memOk m) (he2 : -9223372036854775808 ≤ ep2 ∧ ep2 ≤ 9223372036854775807) (hf2 : 0 ≤ fl2 ∧ fl2 < 18446744073709551616) :
    Calls Tryz.prog 30 #[.agg #[.int .i64 ep, mv, .int .u64 fl], .agg #[.int .i64 ep2, mv2, .int .u64 fl2]] w fun e w' => e = .returned (.bool (sameCf ep ms fl ep2 ms2 fl2)) ∧ Below w.heap.size w w' := rsame_any ⟨ep, mv, ms, fl⟩ ⟨ep2, mv2, ms2, fl2⟩ w ⟨hs, hmk, he.1, he.2, hf.1, hf.2⟩ ⟨hs2, hmk2, he2.1, he2.2, hf2.1, hf2.2⟩

set_option maxRecDepth 100000 in
theorem cPut_any (ep : Int) (mv : Value) (ms : List MemT) (fl : Int) (w : World) (hs : SliceOf memE 2 w mv ms) (hmk : ∀ m ∈ ms, memOk m) (he : -9223372036854775808 ≤ ep ∧ ep ≤ 9223372036854775807) (hf : 0 ≤ fl ∧ fl < 18446744073709551616) :
    Calls Tryz.prog 60 #[.agg #[.int .i64 ep, mv, .int .u64 fl]] w fun e w' => e = .returned (.tuple #[.string (putCf ep ms fl), .int .i64 (chkC ep ms)]) ∧ Below w.heap.size w w' := by
 have hcb : chkC ep ms = 0 → ((1 ≤ ep ∧ ep ≤ 1073741824) ∧ ms.length ≤ 4) := fun h => ⟨(chkC_ok h).1, (chkC_ok h).2.1.2⟩;have hB0 := Below.refl w.heap.size w;have hl_hs := sl_len hs;refine co_enter (n := 43) Tryz.func60 rfl rfl rfl [(0, .agg #[.int .i64 ep, mv, .int .u64 fl])] rfl (fun a s => ?_);refine q2 ?_;refine pw s rfl (op_new (v := fun N => pt N 0) (T := 26) (cs := #[.int .i64 ep, mv, .int .u64 fl]) (by kernel_rfl) (by kernel_rfl) (by kernel_rfl)) ?_;rintro _ w2 a1 ⟨N3, rfl, hN6, hz7, hk5, hg4⟩ s;have hz8 := hg4.size
 try dsimp only at s
 refine pk0 (v := .string (⟨#[]⟩)) s rfl fun _ s => ?_;refine pk0 (v := .int .i64 0) s rfl fun _ s => q6 ?_;refine pk (v := .agg #[.int .i64 ep, mv, .int .u64 fl]) s rfl (rn_loadN rfl rfl Tryz.underlying26 rfl (by kernel_rfl) hk5.all) fun _ s => ?_;have hB14 := hb_new hB0 hg4;refine pw s rfl (op_call (args := #[.agg #[.int .i64 ep, mv, .int .u64 fl]]) (R := fun res xw => res = .int .i64 (chkC ep ms) ∧ Below w2.heap.size w2 xw) rfl rfl rfl (by kernel_rfl) (by kernel_rfl) (Tryz.call71 _ _) (wcheck_any ep mv ms fl w2 (hs.below hB14) (by assumption) (by first | omega | (simp; done) | (simp; omega)) (by first | omega | (simp; done) | (simp; omega))) (by rintro e x ⟨rfl, hb15⟩; exact ⟨_, rfl, ⟨rfl, hb15⟩⟩)) ?_;rintro _ w13 a12 ⟨rfl, hb15⟩ s;have hz16 := hb15.size;refine pk0 (v := .int .i64 (chkC ep ms)) s rfl fun _ s => q3 ?_;refine pk0 (v := .int .i64 (chkC ep ms)) s rfl fun _ s => ?_;refine pk0 (v := .bool (chkC ep ms != 0)) s rfl fun _ s => q1 ?_;have hB21 := hb_call hB14 hb15;cases hc20 : (chkC ep ms != 0)
 ·
  rw [hc20] at s;have hp22 : ¬ (chkC ep ms ≠ 0) := by first | simpa using hc20 | simpa [and_assoc] using hc20
  refine co_false s rfl <| q0 <| co_seq ?_;refine dr_gen (fun x => Below w.heap.size w x ∧ Blk x N3 26 #[.int .i64 ep, mv, .int .u64 fl]) (by kernel_rfl) (fun w23 hg24 => ?_) (fun w23 hg24 => ?_)
  ·
   have hz25 := hg24.size;have hB26 := hb_new hB21 hg24;have hk27 := hk5.below hb15;have hk28 := hk27.kept hg24 (by simp);exact ⟨hB26, hk28⟩
  have hz29 := hg24.size;have hB30 := hb_new hB21 hg24;have hk31 := hk5.below hb15;have hk32 := hk31.kept hg24 (by simp);refine dk0 1 (v := pt N3 0) s rfl rfl ⟨hB30, hk32⟩ fun _ s => ?_;refine dk 2 (v := .int .i64 ep) s rfl rfl ⟨hB30, hk32⟩ (fun x hx => (rn_load1 rfl rfl Tryz.isAgg3 (hx.2.cell rfl))) fun _ s => ?_;refine dk0 4 (v := pt N3 1) s rfl rfl ⟨hB30, hk32⟩ fun _ s => ?_;refine dk 5 (v := mv) s rfl rfl ⟨hB30, hk32⟩ (fun x hx => (rn_load1 rfl rfl Tryz.isAgg24 (hx.2.cell rfl))) fun _ s => ?_;refine dk 6 (v := .int .i64 (ms.length : Int)) s rfl rfl ⟨hB30, hk32⟩ (fun x hx => (rn_len rfl rfl Tryz.underlying24 (hs.below hx.1))) fun _ s => ?_;refine d1 0 s rfl rfl (op_call (args := #[]) (R := fun res xw => ∃ b : Nat, res = pt b 0 ∧ b = w23.heap.size ∧ OW b [] 0 xw ∧ Below w23.heap.size w23 xw) rfl rfl rfl (by kernel_rfl) (by kernel_rfl) (Tryz.call18 _ _) (ow_new w23) (by rintro e x ⟨b, rfl, h0, h1, h2⟩; exact ⟨_, rfl, b, rfl, h0, h1, h2⟩)) ?_ ?_
  ·
   rintro _ w39 ⟨b40, rfl, hN41, ho42, hb43⟩;have hz44 := hb43.size;have hl45 := ho42.lt;have hB46 := hb_call hB30 hb43;have hk47 := hk32.below hb43;exact ⟨hB46, hk47⟩
  rintro _ w39 a38 ⟨b40, rfl, hN41, ho42, hb43⟩ s;have hz44 := hb43.size;have hl45 := ho42.lt;have hB46 := hb_call hB30 hb43;have hk47 := hk32.below hb43;refine d1 3 s rfl rfl (op_call (args := #[pt b40 0, .int .i64 ep]) (R := fun res xw => res = pt b40 0 ∧ OW b40 (([] : List UInt8) ++ putL ep) (0 + 9) xw ∧ But (Rw w39 b40) w39 xw) rfl rfl rfl (by kernel_rfl) (by kernel_rfl) (Tryz.call19 _ _) (ow_num b40 ([]) 0 ep w39 ho42 (by omega) (by omega) (by omega)) (by rintro e x ⟨rfl, h1, h2⟩; exact ⟨_, rfl, rfl, h1, h2⟩)) ?_ ?_
  ·
   rintro _ w49 ⟨rfl, ho50, hx51⟩;have hz52 := hx51.size;have hl53 := ho50.lt;have hB54 := hb_wr hB46 ho42 (by omega) hx51;have hk55 := blk_wr hk47 ho42 (by decide) (by omega) hx51;exact ⟨hB54, hk55⟩
  rintro _ w49 a48 ⟨rfl, ho50, hx51⟩ s;have hz52 := hx51.size;have hl53 := ho50.lt;have hB54 := hb_wr hB46 ho42 (by omega) hx51;have hk55 := blk_wr hk47 ho42 (by decide) (by omega) hx51;refine d1 7 s rfl rfl (op_call (args := #[pt b40 0, .int .i64 (ms.length : Int)]) (R := fun res xw => res = pt b40 0 ∧ OW b40 ((([] : List UInt8) ++ putL ep) ++ putL (ms.length : Int)) (0 + 9 + 9) xw ∧ But (Rw w49 b40) w49 xw) rfl rfl rfl (by kernel_rfl) (by kernel_rfl) (Tryz.call19 _ _) (ow_num b40 (([] : List UInt8) ++ putL ep) (0 + 9) (ms.length : Int) w49 ho50 (by omega) (by omega) (by omega)) (by rintro e x ⟨rfl, h1, h2⟩; exact ⟨_, rfl, rfl, h1, h2⟩)) ?_ ?_
  ·
   rintro _ w57 ⟨rfl, ho58, hx59⟩;have hz60 := hx59.size;have hl61 := ho58.lt;have hB62 := hb_wr hB54 ho50 (by omega) hx59;have hk63 := blk_wr hk55 ho50 (by decide) (by omega) hx59;exact ⟨hB62, hk63⟩
  rintro _ w57 a56 ⟨rfl, ho58, hx59⟩ s;have hz60 := hx59.size;have hl61 := ho58.lt;have hB62 := hb_wr hB54 ho50 (by omega) hx59;have hk63 := blk_wr hk55 ho50 (by decide) (by omega) hx59;refine dk0 8 (v := pt b40 0) s rfl rfl ⟨hB62, hk63⟩ fun _ s => ?_;refine dr_done (by kernel_rfl) ?_;refine co_then <| q9 ?_;refine pk0 (v := pt N3 1) s rfl fun _ s => ?_;refine pk (v := mv) s rfl (rn_load1 rfl rfl Tryz.isAgg24 (hk63.cell rfl)) fun _ s => ?_;refine pk (v := .int .i64 (ms.length : Int)) s rfl (rn_len rfl rfl Tryz.underlying24 (hs.below hB62)) fun _ s => ?_;refine pk0 (v := .int .i64 0) s rfl fun _ s => q1 <| wp_block ?_;have hck := (chkC_ok (ep := ep) (ms := ms) (by omega)).2.2.2;have s : Slots 43 [(1, pt N3 0), (2, .string (⟨#[]⟩)), (3, .int .i64 0), (5, pt b40 0), (22, mv), (23, .int .i64 (ms.length : Int)), (24, .int .i64 0)] _ := s.sub ⟨rfl, rfl, rfl, rfl, rfl, rfl, rfl, trivial⟩;refine co_loop (fun mm a x => ∃ (i : Nat), Slots 43 [(1, pt N3 0), (2, .string (⟨#[]⟩)), (3, .int .i64 0), (5, pt b40 0), (22, mv), (23, .int .i64 (ms.length : Int)), (24, .int .i64 (i : Int))] a ∧ mm = ms.length - i ∧ (i ≤ ms.length) ∧ OW b40 (putL ep ++ putL (ms.length : Int) ++ putM (ms.take i)) (18 + i * 18) x ∧ Below w.heap.size w x ∧ Blk x N3 26 #[.int .i64 ep, mv, .int .u64 fl]) (ms.length - 0) ?_ ?_
  · exact ⟨0, s.sub ⟨rfl, rfl, rfl, rfl, rfl, rfl, (slot_eq rfl (congrArg (Value.int .i64) (by first | rfl | omega))), trivial⟩, rfl, by omega, (ho58.eq (by first | (simp [putM]; done) | (rw [takeM_at (by assumption)]; simp [putM])) (by first | omega | (simp; done) | (simp; omega))), hB62, hk63⟩
  · rintro k70 a71 w72 ⟨i, s, rfl, hi73, hf74, hB75, hk76⟩
    have hz77 := hB75.size;have hl78 := hk76.lt;have hl79 := hf74.lt;refine q2 ?_;refine pk0 (v := .bool (decide ((i : Int) < (ms.length : Int)))) s rfl fun _ s => q1 <| co_seq ?_;cases hc81 : (decide ((i : Int) < (ms.length : Int)))
    ·
     rw [hc81] at s;have hp82 : ¬ ((i : Int) < (ms.length : Int)) := of_decide_eq_false hc81;refine co_false s rfl <| wp_exit <| co_thenX <| co_thenX <| qx <| q2 ?_;refine pk0 (v := pt b40 0) s rfl fun _ s => ?_;refine pk0 (v := pt N3 2) s rfl fun _ s => ?_;refine pk (v := .int .u64 fl) s rfl (rn_load1 rfl rfl Tryz.isAgg22 (hk76.cell rfl)) fun _ s => ?_;refine pw s rfl (op_call (args := #[pt b40 0, .int .u64 fl]) (R := fun res xw => res = pt b40 0 ∧ OW b40 ((putL ep ++ putL (ms.length : Int) ++ putM (ms.take i)) ++ putL fl) (18 + i * 18 + 9) xw ∧ But (Rw w72 b40) w72 xw) rfl rfl rfl (by kernel_rfl) (by kernel_rfl) (Tryz.call58 _ _) (ow_big b40 (putL ep ++ putL (ms.length : Int) ++ putM (ms.take i)) (18 + i * 18) fl w72 hf74 (by omega) (by omega) (by omega)) (by rintro e x ⟨rfl, h1, h2⟩; exact ⟨_, rfl, rfl, h1, h2⟩)) ?_;rintro _ w87 a86 ⟨rfl, ho88, hx89⟩ s;have hz90 := hx89.size;have hl91 := ho88.lt;refine pw s rfl (op_call (args := #[pt b40 0]) (R := fun res xw => res = .tuple #[.string (⟨((putL ep ++ putL (ms.length : Int) ++ putM (ms.take i)) ++ putL fl).toArray⟩), .int .i64 0] ∧ Below w87.heap.size w87 xw) rfl rfl rfl (by kernel_rfl) (by kernel_rfl) (Tryz.call22 _ _) (ow_done b40 ((putL ep ++ putL (ms.length : Int) ++ putM (ms.take i)) ++ putL fl) (18 + i * 18 + 9) w87 ho88) (by rintro e x ⟨rfl, h2⟩; exact ⟨_, rfl, rfl, h2⟩)) ?_;rintro _ w93 a92 ⟨rfl, hb94⟩ s;have hz95 := hb94.size;refine pk0 (v := .string (⟨((putL ep ++ putL (ms.length : Int) ++ putM (ms.take i)) ++ putL fl).toArray⟩)) s rfl fun _ s => ?_;refine pk0 (v := .int .i64 0) s rfl fun _ s => ?_;refine pk0 (v := .string (⟨((putL ep ++ putL (ms.length : Int) ++ putM (ms.take i)) ++ putL fl).toArray⟩)) s rfl fun _ s => ?_;refine pk0 (v := .int .i64 0) s rfl fun _ s => q4 ?_;refine co_ret2 s rfl rfl rfl ?_;have hB100 := hb_wr hB75 hf74 (by omega) hx89;have hB101 := hb_call hB100 hb94;exact ⟨by rw [putCf_ok (by omega), show chkC ep ms = 0 by omega, List.take_of_length_le (show ms.length ≤ i by omega)]; simp [putC], hB101⟩
    rw [hc81] at s;have hp102 : (i : Int) < (ms.length : Int) := of_decide_eq_true hc81;refine co_true s rfl <| q0 <| co_seq <| wp_block <| q2 ?_;obtain ⟨y103, hy103⟩ : ∃ z, ms[i]? = some z := ⟨_, List.getElem?_eq_getElem (by first | omega | (simp; done) | (simp; omega))⟩;have oky103 := hck _ (List.mem_of_getElem? hy103);have k104 : (0 ≤ y103.1 ∧ y103.1 < 4) ∧ (1 ≤ y103.2 ∧ y103.2 ≤ 1073741824) := oky103;refine pk (v := pt (blkOf mv) (offOf mv + i * 2)) s rfl (rn_index rfl rfl rfl Tryz.underlying24 Tryz.sizeOf128 (hs.below hB75) (by omega) (by first | omega | (simp; done) | (simp; omega))) fun _ s => ?_;refine pk (v := .agg #[.int .i64 y103.1, .int .i64 y103.2]) s rfl (rn_loadN rfl rfl Tryz.underlying128 rfl (by kernel_rfl) (sl_at (hs.below hB75) hy103)) fun _ s => ?_;refine pw s rfl (op_new (v := fun N => pt N 0) (T := 128) (cs := #[.int .i64 0, .int .i64 0]) (by kernel_rfl) (by kernel_rfl) (by kernel_rfl)) ?_;rintro _ w108 a107 ⟨N109, rfl, hN112, hz113, hk111, hg110⟩ s;have hz114 := hg110.size
    try dsimp only at s
    refine pwD s rfl (op_storeN rfl rfl rfl (by kernel_rfl) (by kernel_rfl) hk111 rfl) ?_;rintro _ w116 a115 ⟨hk117, hz118, hg119⟩ s;have hk117' : Blk w116 N109 128 #[.int .i64 y103.1, .int .i64 y103.2] := hk117;have hz120 := hg119.size;refine q1 ?_;refine dr_gen (fun x => Below w.heap.size w x ∧ Blk x N109 128 #[.int .i64 y103.1, .int .i64 y103.2]) (by kernel_rfl) (fun w121 hg122 => ?_) (fun w121 hg122 => ?_)
    ·
     have hz123 := hg122.size;have hB124 := hb_new hB75 hg110;have hB125 := hb_at hB124 hg119 (by omega);have hB126 := hb_new hB125 hg122;have hk127 := hk117'.kept hg122 (by simp);exact ⟨hB126, hk127⟩
    have hz128 := hg122.size;have hB129 := hb_new hB75 hg110;have hB130 := hb_at hB129 hg119 (by omega);have hB131 := hb_new hB130 hg122;have hk132 := hk117'.kept hg122 (by simp);refine dk0 0 (v := pt b40 0) s rfl rfl ⟨hB131, hk132⟩ fun _ s => ?_;refine dk0 1 (v := pt N109 0) s rfl rfl ⟨hB131, hk132⟩ fun _ s => ?_;refine dk 2 (v := .int .i64 y103.1) s rfl rfl ⟨hB131, hk132⟩ (fun x hx => (rn_load1 rfl rfl Tryz.isAgg3 (hx.2.cell rfl))) fun _ s => ?_;refine dk0 4 (v := pt N109 1) s rfl rfl ⟨hB131, hk132⟩ fun _ s => ?_;refine dk 5 (v := .int .i64 y103.2) s rfl rfl ⟨hB131, hk132⟩ (fun x hx => (rn_load1 rfl rfl Tryz.isAgg3 (hx.2.cell rfl))) fun _ s => ?_;have ho142 := hf74.new hg110;have ho143 := ho142.at hk111 (by decide) (by omega) hg119;have ho144 := ho143.new hg122;refine d1 3 s rfl rfl (op_call (args := #[pt b40 0, .int .i64 y103.1]) (R := fun res xw => res = pt b40 0 ∧ OW b40 ((putL ep ++ putL (ms.length : Int) ++ putM (ms.take i)) ++ putL y103.1) (18 + i * 18 + 9) xw ∧ But (Rw w121 b40) w121 xw) rfl rfl rfl (by kernel_rfl) (by kernel_rfl) (Tryz.call19 _ _) (ow_num b40 (putL ep ++ putL (ms.length : Int) ++ putM (ms.take i)) (18 + i * 18) y103.1 w121 ho144 (by omega) (by omega) (by omega)) (by rintro e x ⟨rfl, h1, h2⟩; exact ⟨_, rfl, rfl, h1, h2⟩)) ?_ ?_
    ·
     rintro _ w139 ⟨rfl, ho140, hx141⟩;have hz145 := hx141.size;have hl146 := ho140.lt;have hB147 := hb_wr hB131 ho144 (by omega) hx141;have hk148 := blk_wr hk132 ho144 (by decide) (by omega) hx141;exact ⟨hB147, hk148⟩
    rintro _ w139 a138 ⟨rfl, ho140, hx141⟩ s;have hz145 := hx141.size;have hl146 := ho140.lt;have hB147 := hb_wr hB131 ho144 (by omega) hx141;have hk148 := blk_wr hk132 ho144 (by decide) (by omega) hx141;refine d1 6 s rfl rfl (op_call (args := #[pt b40 0, .int .i64 y103.2]) (R := fun res xw => res = pt b40 0 ∧ OW b40 (((putL ep ++ putL (ms.length : Int) ++ putM (ms.take i)) ++ putL y103.1) ++ putL y103.2) (18 + i * 18 + 9 + 9) xw ∧ But (Rw w139 b40) w139 xw) rfl rfl rfl (by kernel_rfl) (by kernel_rfl) (Tryz.call19 _ _) (ow_num b40 ((putL ep ++ putL (ms.length : Int) ++ putM (ms.take i)) ++ putL y103.1) (18 + i * 18 + 9) y103.2 w139 ho140 (by omega) (by omega) (by omega)) (by rintro e x ⟨rfl, h1, h2⟩; exact ⟨_, rfl, rfl, h1, h2⟩)) ?_ ?_
    ·
     rintro _ w150 ⟨rfl, ho151, hx152⟩;have hz153 := hx152.size;have hl154 := ho151.lt;have hB155 := hb_wr hB147 ho140 (by omega) hx152;have hk156 := blk_wr hk148 ho140 (by decide) (by omega) hx152;exact ⟨hB155, hk156⟩
    rintro _ w150 a149 ⟨rfl, ho151, hx152⟩ s;have hz153 := hx152.size;have hl154 := ho151.lt;refine dr_done (by kernel_rfl) ?_;refine co_blockN <| co_then <| co_reg ?_;refine pk (v := .int .i64 ((i + 1 : Nat) : Int)) s rfl (rn_arith' rfl rfl rfl rfl rfl rfl (IntWalk.i64_in _ (by omega)) (by omega)) fun _ s => ?_;refine pk0 (v := .int .i64 ((i + 1 : Nat) : Int)) s rfl fun _ s => q1 ?_;refine ⟨(ms.length - (i + 1)), by omega, ?_⟩;have hB157 := hb_wr hB147 ho140 (by omega) hx152;have hk158 := hk76.kept hg110 (by simp);have hk159 := hk158.kept hg119 (by simp; omega);have hk160 := hk159.kept hg122 (by simp);have hk161 := blk_wr hk160 ho144 (by decide) (by omega) hx141;have hk162 := blk_wr hk161 ho140 (by decide) (by omega) hx152;exact ⟨i + 1, s.sub ⟨rfl, rfl, rfl, rfl, rfl, rfl, rfl, trivial⟩, rfl, by omega, (ho151.eq (by first | (simp [putM]; done) | (rw [takeM_at (by assumption)]; simp [putM])) (by first | omega | (simp; done) | (simp; omega))), hB157, hk162⟩
 rw [hc20] at s;have hp163 : chkC ep ms ≠ 0 := by first | simpa using hc20 | simpa [and_assoc] using hc20
 refine co_true s rfl <| q2 ?_;refine pk0 (v := .int .i64 (chkC ep ms)) s rfl fun _ s => ?_;refine pk0 (v := .string (⟨#[]⟩)) s rfl fun _ s => ?_;refine pk0 (v := .int .i64 (chkC ep ms)) s rfl fun _ s => q5 ?_;refine co_ret2 s rfl rfl rfl ?_;exact ⟨by rw [putCf_err (by assumption)], hB21⟩
end Go.Proofs.YtcbagajjgbfgdaaGreat

/- Slices of any elements that came in, opened by their readings. Conditions: none. -/
namespace Go.Proofs.YtcbagajjgbfgdaaGreat
open Go.RowKit Go.ChangeShapes Go.WideShapes Go.Deep

section
variable {H : Type} {enc : TypeId × Value → H} {P : Program} {w : World} {base : Nat} {spare : Nat → Bool} {held : Bool}
theorem open_rows {α : Type} [Inhabited α] {t e : TypeId} {fuel : Nat} {cs : List Value} {x : DataW H × List MemPlace} (E : α → List Value) (sz : Nat) (good : α → Prop)
    (ht : P.underlying t = some (.slice e)) (hC : P.cellsOf e = sz) (hpos : 0 < sz)
    (elem : ∀ n cs x, DataW.trod enc P w base spare held n e cs = some x → ∃ a : α, cs = E a ∧ good a)
    (h : DataW.trod enc P w base spare held fuel t cs = some x) :
    ∃ (l : List α) (v : Value), cs = [v] ∧ SliceOf E sz w v l ∧ ∀ a ∈ l, good a := by
  rcases open_slice ht h with ⟨hcs, _⟩ | ⟨a, len, cap, m, n, D, Pl, hcs, _, hl, hm, hmm, _, hi⟩
  · exact ⟨[], _, hcs, SliceOf.nil _ _ _, by simp⟩
  · have hlm : len ≤ m := by rw [hmm]; split <;> omega
    rw [hC] at hi
    obtain ⟨f, hf⟩ := choose_lt (α := α) (n := len) (p := fun i y => (∀ j u, (E y)[j]? = some u → w.cell? ((a.add (i * sz)).add j) = some u) ∧ good y ∧ (E y).length = sz) (fun i hilt => by
      obtain ⟨cs', hc, ht'⟩ := hi i (by omega)
      obtain ⟨y, rfl, hg⟩ := elem n cs' _ ht'
      obtain ⟨_, hcl, hat⟩ := World.cells?_some hc
      exact ⟨y, fun j u hu => by
        have hj : j < (E y).length := (List.getElem?_eq_some_iff.1 hu).1
        rw [hat j (by omega), hu], hg, hcl⟩)
    refine ⟨(List.range len).map f, _, hcs, ⟨some a, cap, by simp, by simpa using hl, by unfold maxLen at hm; omega, fun h => (by cases h), fun j hj => ?_⟩, fun y hy => ?_⟩
    · have hj' : j < len := by simpa using hj
      obtain ⟨b, off, spot⟩ := a
      have hspot : spot = none := by
        obtain ⟨h1, _, h3⟩ := hf 0 (by omega)
        have hc0 := h1 0 _ (List.getElem?_eq_getElem (show 0 < (E (f 0)).length by omega))
        simpa [Addr.add] using World.cell?_spot hc0
      subst hspot
      refine ⟨b, off, rfl, fun i u hu => ?_⟩
      have := (hf j hj').1 i u (by simpa using hu)
      rw [Addr.add_lit, Addr.add_lit] at this
      exact this
    · obtain ⟨i, hi', rfl⟩ := List.mem_map.1 hy
      exact (hf i (List.mem_range.1 hi')).2.1
/-- A struct of one-cell fields: each field's cell, and its reading. -/
theorem trod_fields {t : TypeId} {fs : Array Field} {fuel : Nat} {cs : List Value} {x : DataW H × List MemPlace} (hs : P.underlying t = some (.struct fs)) (hone : oneCellFields P fs = true) (hC : P.cellsOf t = fs.size)
    (h : DataW.trod enc P w base spare held fuel t cs = some x) :
    cs.length = fs.size ∧ ∃ m, ∀ (j : Nat) (f : Field), fs[j]? = some f → ∃ c y, cs[j]? = some c ∧ DataW.trod enc P w base spare held m f.type [c] = some y := by
  obtain ⟨xs, m, _, _, hl, hx, hf⟩ := DataW.trod_struct hs h
  rw [hC] at hl
  refine ⟨hl, m, fun j f hj => ?_⟩
  have hjl : j < fs.size := (Array.getElem?_eq_some_iff.1 hj).1
  obtain ⟨o, k⟩ := hone_of hone j f hj
  have h1 := hf j f hj
  rw [o, k, List.drop_eq_getElem_cons (by omega), List.take_succ_cons, List.take_zero, List.getElem?_eq_getElem (by omega)] at h1
  exact ⟨_, _, List.getElem?_eq_getElem (by omega), h1⟩
end
end Go.Proofs.YtcbagajjgbfgdaaGreat

/- Slices of texts that came in. Conditions: none. -/
namespace Go.Proofs.YtcbagajjgbfgdaaGreat
open Go.RowKit Go.ChangeShapes Go.WideShapes

theorem weights_all_mem {H : Type} {P : Program} {e : TypeId} : ∀ {D : List (DataW H)} {d : DataW H}, d ∈ D → ∀ n ∈ d.weights P e, n ∈ DataW.weightsAll P e D
  | [], _, h, _, _ => absurd h (by simp)
  | x :: D, d, h, n, hn => by
    unfold DataW.weightsAll
    rcases List.mem_cons.1 h with rfl | h
    · exact List.mem_append_left _ hn
    · exact List.mem_append_right _ (weights_all_mem h n hn)
theorem weights_le {H : Type} {P : Program} {ts : List TypeId} {ds : List (DataW H)} (h : (DataW.weightsEach P ts ds).all (· ≤ reachBytes) = true) {j : Nat} {t : TypeId} {d : DataW H} (ht : ts[j]? = some t) (hd : ds[j]? = some d) : ∀ n ∈ d.weights P t, n ≤ reachBytes := fun n hn => by
  have := List.all_eq_true.1 h _ (DataW.weights_mem_each ht hd n hn)
  simpa using this
end Go.Proofs.YtcbagajjgbfgdaaGreat

/- Entries of a log that came in (over the texts of ops): a batch (client, request, operations), a timestamp; with how much they hold. Conditions: none. -/
namespace Go.Proofs.YtcbagajjgbfgdaaGreat
open Go.RowKit Go.ChangeShapes Go.WideShapes Go.Deep Go.PlainAid

def opOk (o : OpT) : Prop := o.1.size ≤ 9223372036854775807 ∧ o.2.1.size ≤ 9223372036854775807
/-- An entry: client, request, the operations' slice as a value and as a list, timestamp. -/
structure EntT where
  client : Int
  req : Int
  ops : Value
  opl : List OpT
  ts : Int
instance : Inhabited EntT := ⟨⟨0, 0, .slice none 0 0, [], 0⟩⟩
def entE (e : EntT) : List Value := [.int .i64 e.client, .int .i64 e.req, e.ops, .int .u64 e.ts]
/-- What is known of an entry that came in. -/
structure EntOk (w : World) (e : EntT) : Prop where
  ops : SliceOf opE 3 w e.ops e.opl
  each : ∀ o ∈ e.opl, opOk o
  ts0 : 0 ≤ e.ts
  ts1 : e.ts < 18446744073709551616
  cl : (Lit.int .i64 e.client).wf = true
  rq : (Lit.int .i64 e.req).wf = true
theorem EntOk.below {w w' : World} {e : EntT} (h : EntOk w e) (hb : Below w.heap.size w w') : EntOk w' e := ⟨h.ops.below hb, h.each, h.ts0, h.ts1, h.cl, h.rq⟩
section
variable {H : Type} {enc : TypeId × Value → H} {w : World} {base : Nat} {spare : Nat → Bool} {held : Bool}
set_option maxRecDepth 10000 in
theorem elem_opS (n : Nat) (cs : List Value) (x : DataW H × List MemPlace) (h : DataW.trod enc Tryz.prog w base spare held n 134 cs = some x) : ∃ p : OpT, cs = opE p ∧ opOk p := by
  obtain ⟨hl, m, hf⟩ := trod_fields Tryz.underlying134 (by kernel_rfl) (by kernel_rfl) h
  have hl3 : cs.length = 3 := hl
  clear hl
  match cs, hl3 with
  | [c0, c1, c2], _ =>
    obtain ⟨_, y0, e0, h0⟩ := hf 0 _ rfl
    obtain ⟨_, y1, e1, h1⟩ := hf 1 _ rfl
    obtain ⟨_, y2, e2, h2⟩ := hf 2 _ rfl
    cases e0; cases e1; cases e2
    obtain ⟨a, e0, _, w0⟩ := DataW.trod_string Tryz.underlying9 h0
    obtain ⟨b, e1, _, w1⟩ := DataW.trod_string Tryz.underlying9 h1
    obtain ⟨c, e2, _⟩ := DataW.trod_bool Tryz.underlying4 h2
    simp only [List.cons.injEq, and_true] at e0 e1 e2
    subst e0 e1 e2
    exact ⟨(a, b, c), rfl, by unfold maxLen at w0; exact w0, by unfold maxLen at w1; exact w1⟩
theorem open_opsS {fuel : Nat} {cs : List Value} {x : DataW H × List MemPlace} (h : DataW.trod enc Tryz.prog w base spare held fuel 27 cs = some x) :
    ∃ (l : List OpT) (v : Value), cs = [v] ∧ SliceOf opE 3 w v l ∧ ∀ p ∈ l, opOk p :=
  open_rows opE 3 opOk Tryz.underlying27 (by kernel_rfl) (by omega) elem_opS h
end
section
variable {H : Type} {enc : TypeId × Value → H} {P : Program} {w : World} {base : Nat} {spare : Nat → Bool} {held : Bool}
theorem weights_all_le {R : Nat} {e : TypeId} {D : List (DataW H)} (h : ∀ n ∈ DataW.weightsAll P e D, n ≤ R) {d : DataW H} (hd : d ∈ D) : ∀ n ∈ d.weights P e, n ≤ R := fun n hn => h n (weights_all_mem hd n hn)
/-- A slice within the form's reach, each element of which is known together with its reading's reach. -/
theorem open_rows_sz {α : Type} [Inhabited α] {t e : TypeId} {fuel : Nat} {cs : List Value} {x : DataW H × List MemPlace} (E : α → List Value) (sz : Nat) (good : α → Prop)
    (ht : P.underlying t = some (.slice e)) (hC : P.cellsOf e = sz) (hpos : 0 < sz) (hw : ∀ n ∈ x.1.weights P t, n ≤ reachBytes)
    (elem : ∀ n cs y, DataW.trod enc P w base spare held n e cs = some y → (∀ n ∈ y.1.weights P e, n ≤ reachBytes) → ∃ a : α, cs = E a ∧ good a)
    (h : DataW.trod enc P w base spare held fuel t cs = some x) :
    ∃ (l : List α) (v : Value), cs = [v] ∧ SliceOf E sz w v l ∧ (∀ a ∈ l, good a) ∧ l.length * P.bytesOf e ≤ reachBytes := by
  rcases open_slice ht h with ⟨hcs, _⟩ | ⟨a, len, cap, m, n, D, Pl, hcs, _, hl, hm, hmm, hx, hi⟩
  · exact ⟨[], _, hcs, SliceOf.nil _ _ _, by simp, by simp⟩
  · have hlm : len ≤ m := by rw [hmm]; split <;> omega
    rw [hC] at hi
    subst hx
    have hw1 : ∀ n, n ∈ DataW.weights (H := H) P t (.slice ((List.range len).map D) ((List.range (m - len)).map fun j => D (len + j))) → n ≤ reachBytes := hw
    unfold DataW.weights at hw1
    rw [ht] at hw1
    simp only [List.mem_cons, List.mem_append, List.length_map, List.length_range] at hw1
    obtain ⟨f, hf⟩ := choose_lt (α := α) (n := len) (p := fun i y => (∀ j u, (E y)[j]? = some u → w.cell? ((a.add (i * sz)).add j) = some u) ∧ good y ∧ (E y).length = sz) (fun i hilt => by
      obtain ⟨cs', hc, ht'⟩ := hi i (by omega)
      obtain ⟨y, rfl, hg⟩ := elem n cs' _ ht' (weights_all_le (D := (List.range len).map D) (fun n hn => hw1 n (.inr (.inl hn))) (List.mem_map.2 ⟨i, List.mem_range.2 hilt, rfl⟩))
      obtain ⟨_, hcl, hat⟩ := World.cells?_some hc
      exact ⟨y, fun j u hu => by
        have hj : j < (E y).length := (List.getElem?_eq_some_iff.1 hu).1
        rw [hat j (by omega), hu], hg, hcl⟩)
    refine ⟨(List.range len).map f, _, hcs, ⟨some a, cap, by simp, by simpa using hl, by unfold maxLen at hm; omega, fun h => (by cases h), fun j hj => ?_⟩, fun y hy => ?_, ?_⟩
    · have hj' : j < len := by simpa using hj
      obtain ⟨b, off, spot⟩ := a
      have hspot : spot = none := by
        obtain ⟨h1, _, h3⟩ := hf 0 (by omega)
        have hc0 := h1 0 _ (List.getElem?_eq_getElem (show 0 < (E (f 0)).length by omega))
        simpa [Addr.add] using World.cell?_spot hc0
      subst hspot
      refine ⟨b, off, rfl, fun i u hu => ?_⟩
      have := (hf j hj').1 i u (by simpa using hu)
      rw [Addr.add_lit, Addr.add_lit] at this
      exact this
    · obtain ⟨i, hi', rfl⟩ := List.mem_map.1 hy
      exact (hf i (List.mem_range.1 hi')).2.1
    · have h0 := hw1 _ (.inl rfl)
      rw [List.length_map, List.length_range]
      exact Nat.le_trans (Nat.mul_le_mul_right _ (by omega)) h0
end
section
variable {H : Type} {enc : TypeId × Value → H} {w : World} {base : Nat} {spare : Nat → Bool} {held : Bool}
/-- An entry that came in, and how many operations it can have. -/
def EntOkS (w : World) (e : EntT) : Prop := EntOk w e ∧ e.opl.length ≤ 3518437208883
set_option maxRecDepth 10000 in
theorem elem_ent_sz (n : Nat) (cs : List Value) (x : DataW H × List MemPlace) (h : DataW.trod enc Tryz.prog w base spare held n 98 cs = some x) (hw : ∀ n ∈ x.1.weights Tryz.prog 98, n ≤ reachBytes) : ∃ e, cs = entE e ∧ EntOkS w e := by
  obtain ⟨xs, m, _, hx, hl, hxl, hf⟩ := DataW.trod_struct Tryz.underlying98 h
  have hl4 : cs.length = 4 := hl
  have hx2 : xs.length = 2 := hxl
  clear hl hxl
  match cs, hl4, xs, hx2 with
  | [c0, c1, c2, c3], _, [y0, y1], _ =>
    have h0' : DataW.trod enc Tryz.prog w base spare held m 29 [c0, c1, c2] = some y0 := hf 0 _ rfl
    have h1' : DataW.trod enc Tryz.prog w base spare held m 22 [c3] = some y1 := hf 1 _ rfl
    obtain ⟨ts, e3, _, w3⟩ := DataW.trod_int Tryz.underlying22 h1'
    have hw0 : ∀ n ∈ y0.1.weights Tryz.prog 29, n ≤ reachBytes := fun n hn => hw n (by
      have e1 : x.1 = .agg [y0.1, y1.1] := by rw [hx]; rfl
      rw [e1]
      unfold DataW.weights
      rw [Tryz.underlying98]
      exact DataW.weights_mem_each (j := 0) rfl rfl n hn)
    obtain ⟨zs, m2, _, hz, hzl0, hzl, hg⟩ := DataW.trod_struct Tryz.underlying29 h0'
    have hz3 : zs.length = 3 := hzl
    match zs, hz3 with
    | [z0, z1, z2], _ =>
      have g0 : DataW.trod enc Tryz.prog w base spare held m2 3 [c0] = some z0 := hg 0 _ rfl
      have g1 : DataW.trod enc Tryz.prog w base spare held m2 3 [c1] = some z1 := hg 1 _ rfl
      have g2 : DataW.trod enc Tryz.prog w base spare held m2 27 [c2] = some z2 := hg 2 _ rfl
      have hw2 : ∀ n ∈ z2.1.weights Tryz.prog 27, n ≤ reachBytes := fun n hn => hw0 n (by
        have e1 : y0.1 = .agg [z0.1, z1.1, z2.1] := by rw [hz]; rfl
        rw [e1]
        unfold DataW.weights
        rw [Tryz.underlying29]
        exact DataW.weights_mem_each (j := 2) rfl rfl n hn)
      obtain ⟨a, e0, _, w0⟩ := DataW.trod_int Tryz.underlying3 g0
      obtain ⟨b, e1, _, w1⟩ := DataW.trod_int Tryz.underlying3 g1
      obtain ⟨l, v, e2, hs, hall, hsz⟩ := open_rows_sz opE 3 opOk Tryz.underlying27 (by kernel_rfl) (by omega) hw2 (fun n cs y h _ => elem_opS n cs y h) g2
      rw [show Tryz.prog.bytesOf 134 = 40 by kernel_rfl] at hsz
      simp only [List.cons.injEq, and_true] at e0 e1 e2 e3
      subst e0 e1 e2 e3
      have := wf_u64 w3
      exact ⟨⟨a, b, c2, l, ts⟩, rfl, ⟨hs, hall, this.1, this.2, w0, w1⟩, by unfold reachBytes at hsz; show l.length ≤ _; omega⟩
theorem open_ents_sz {fuel : Nat} {cs : List Value} {x : DataW H × List MemPlace} (hw : ∀ n ∈ x.1.weights Tryz.prog 30, n ≤ reachBytes) (h : DataW.trod enc Tryz.prog w base spare held fuel 30 cs = some x) :
    ∃ (l : List EntT) (v : Value), cs = [v] ∧ SliceOf entE 4 w v l ∧ (∀ p ∈ l, EntOkS w p) ∧ l.length ≤ 2932031007403 := by
  obtain ⟨l, v, h1, h2, h3, h4⟩ := open_rows_sz entE 4 (EntOkS w) Tryz.underlying30 (by kernel_rfl) (by omega) hw elem_ent_sz h
  rw [show Tryz.prog.bytesOf 98 = 48 by kernel_rfl] at h4
  exact ⟨l, v, h1, h2, h3, by unfold reachBytes at h4; omega⟩
end

end Go.Proofs.YtcbagajjgbfgdaaGreat

/- Maps that the call makes: a list of keys and values; lookups, stores, deletes, lengths. Conditions: none. -/
namespace Go.Proofs.YtcbagajjgbfgdaaGreat
open Go.RowKit

section
variable {K : Type} [DecidableEq K]
/-- The place and the value of a key. -/
def lookK (a : K) : List (K × Value) → Nat → Option (Nat × Value)
  | [], _ => none
  | p :: r, i => if a = p.1 then some (i, p.2) else lookK a r (i + 1)
def getK (l : List (K × Value)) (a : K) : Option Value := (lookK a l 0).map (·.2)
theorem lookK_shift (a : K) : ∀ (l : List (K × Value)) (i j : Nat), lookK a l (i + j) = (lookK a l j).map fun p => (i + p.1, p.2)
  | [], _, _ => rfl
  | p :: r, i, j => by
    unfold lookK
    split
    · rfl
    · rw [Nat.add_assoc]; exact lookK_shift a r i (j + 1)
theorem getK_cons (p : K × Value) (l : List (K × Value)) (b : K) : getK (p :: l) b = if b = p.1 then some p.2 else getK l b := by
  simp only [getK, lookK]
  split
  · rfl
  · rw [show (0 : Nat) + 1 = 1 + 0 from rfl, lookK_shift]; cases lookK b l 0 <;> rfl
@[simp] theorem getK_nil (b : K) : getK ([] : List (K × Value)) b = none := rfl
end

section
variable {K : Type}
variable {P : Program} {n : Nat} {m : List (Nat × Value)} {w x : World} {o : Oper} {B : Nat} {l : List (K × Value)} {kv : K → Value} {kt e t : TypeId} {q r : Operand} {a : K}
/-- Block B is a map that holds just these entries. -/
def MapB (kv : K → Value) (w : World) (B : Nat) (l : List (K × Value)) : Prop :=
  ∃ es clock, w.heap[B]? = some (.map es clock) ∧ es.toList.map (fun e => (e.key, e.val)) = l.map (fun p => (kv p.1, p.2)) ∧ (l.map (·.1)).Nodup ∧ (es.toList.map (·.born)).Nodup ∧ ∀ e ∈ es.toList, e.born < clock
theorem MapB.lt (h : MapB kv w B l) : B < w.heap.size := by obtain ⟨_, _, h, _⟩ := h; exact (Array.getElem?_eq_some_iff.1 h).1
theorem MapB.keys (h : MapB kv w B l) : (l.map (·.1)).Nodup := by obtain ⟨_, _, _, _, h, _⟩ := h; exact h
theorem MapB.kept {row : Option Nat} (h : MapB kv w B l) (hg : w.grownBy x row) (hne : row ≠ some B) : MapB kv x B l := by
  obtain ⟨es, c, h1, h2⟩ := h
  exact ⟨es, c, by rw [hg.block B (Array.getElem?_eq_some_iff.1 h1).1 (fun e => hne e.symm)]; exact h1, h2⟩
theorem MapB.below (h : MapB kv w B l) (hb : Below w.heap.size w x) : MapB kv x B l := h.kept (below_grown hb) (by simp)
end

section
variable {K : Type} [DecidableEq K]
variable {P : Program} {n : Nat} {m : List (Nat × Value)} {w x : World} {o : Oper} {B : Nat} {l : List (K × Value)} {kv : K → Value} {kt e t : TypeId} {q r : Operand} {a : K}
end
end Go.Proofs.YtcbagajjgbfgdaaGreat

/- Maps that the call makes, told by a function that says what each key has (a default for those that are not there). Conditions: none. -/
namespace Go.Proofs.YtcbagajjgbfgdaaGreat
open Go.RowKit

section
variable {K V : Type} {P : Program} {n : Nat} {m : List (Nat × Value)} {w x : World} {o : Oper} {B : Nat} {kv : K → Value} {kt e t : TypeId} {q r : Operand} {a : K} {enc : V → Value} {z : V} {g : K → V}

/-- Block B is a map; a key a has g a (z, if it is not there). -/
def MapG [DecidableEq K] (kv : K → Value) (enc : V → Value) (z : V) (w : World) (B : Nat) (g : K → V) : Prop := ∃ l, MapB kv w B l ∧ ∀ a, (getK l a).getD (enc z) = enc (g a)
variable [DecidableEq K]
theorem MapG.lt (h : MapG kv enc z w B g) : B < w.heap.size := by obtain ⟨l, h, _⟩ := h; exact h.lt
theorem MapG.kept {row : Option Nat} (h : MapG kv enc z w B g) (hg : w.grownBy x row) (hne : row ≠ some B) : MapG kv enc z x B g := by
  obtain ⟨l, h1, h2⟩ := h; exact ⟨l, h1.kept hg hne, h2⟩
theorem MapG.below (h : MapG kv enc z w B g) (hb : Below w.heap.size w x) : MapG kv enc z x B g := h.kept (below_grown hb) (by simp)
theorem MapG.row {B' : Nat} {T : TypeId} {sz k : Nat} {v : Value} {xs : List Value} (h : MapG kv enc z w B g) (hr : w.ownsRow B' T sz v k xs) : v.ownBlock ≠ some B := by
  intro e1
  obtain ⟨l, ⟨es, c, h1, _⟩, _⟩ := h
  rcases hr.2 with ⟨rfl, _⟩ | ⟨g1, _, _, rfl, _, hg1, _⟩
  · simp [Value.ownBlock] at e1
  · simp [Value.ownBlock] at e1
    subst e1; rw [h1] at hg1; cases hg1
end
end Go.Proofs.YtcbagajjgbfgdaaGreat

/- Package item: Check, Put, Same, Twins, Of of both. Conditions: none. -/
namespace Go.Proofs.YtcbagajjgbfgdaaGreat
open Go.RowKit Go.PlainAid
set_option linter.unusedVariables false


theorem putB_small {c r : Int} {l : List OpT} : (putB c r l).size ≤ 200 := by
  by_cases h : chkB c r l = 0
  · obtain ⟨_, _, hl, _⟩ := chkB_ok h
    have hok := chkB_all h
    rw [putB_ok h]
    show (putH c r l ++ putOs l).length ≤ _
    have h1 := putL_le c; have h2 := putL_le r; have h3 := putL_le ((l.length : Nat) : Int)
    have h4 : ∀ l : List OpT, (∀ z ∈ l, OpOk z) → (putOs l).length ≤ 40 * l.length := fun l => by
      induction l with
      | nil => intro _; simp [putOs]
      | cons z r ih =>
        intro hz
        have := ih (fun y hy => hz y (List.mem_cons_of_mem _ hy))
        obtain ⟨⟨_, k1⟩, k2, _⟩ := hz z (by simp)
        have k3 := putL_le (z.1.size : Int); have k4 := putL_le (z.2.1.size : Int)
        have e : putOs (z :: r) = putO1 z ++ putOs r := by simp [putOs]
        rw [e, List.length_append, List.length_cons]
        have : (putO1 z).length ≤ 40 := by unfold putO1; simp only [List.length_append, List.length_singleton, Array.length_toList, ByteArray.size_data]; omega
        omega
    have h5 := h4 l hok
    unfold putH; simp only [List.length_append]; omega
  · rw [putB_err h]; decide
/-- The bytes of an entry; what is read. -/
def putEL (c r : Int) (l : List OpT) (ts : Int) : List UInt8 := putL ts ++ (putL ((putB c r l).size : Int) ++ (putB c r l).data.toList)
def putE (c r : Int) (l : List OpT) (ts : Int) : ByteArray := if chkB c r l = 0 then ⟨(putEL c r l ts).toArray⟩ else ⟨#[]⟩
theorem putE_ok {c r ts : Int} {l : List OpT} (h : chkB c r l = 0) : putE c r l ts = ⟨(putEL c r l ts).toArray⟩ := by unfold putE; rw [if_pos h]
theorem putE_err {c r ts : Int} {l : List OpT} (h : chkB c r l ≠ 0) : putE c r l ts = ⟨#[]⟩ := by unfold putE; rw [if_neg h]
theorem putE_small {c r ts : Int} {l : List OpT} : (putE c r l ts).size ≤ 220 := by
  by_cases h : chkB c r l = 0
  · rw [putE_ok h]
    show (putEL c r l ts).length ≤ _
    have h1 := putL_le ts; have h2 := putL_le ((putB c r l).size : Int); have h3 := putB_small (c := c) (r := r) (l := l)
    unfold putEL; simp only [List.length_append, Array.length_toList, ByteArray.size_data]; omega
  · rw [putE_err h]; decide
def ofEndE (n : Int) (t : ByteArray) (x : Int) : (Int × Int × List OpT × Int) × Int :=
  if x ≠ 0 then ((0, 0, [], 0), x) else if (ofB t).2 ≠ 0 then ((0, 0, [], 0), (ofB t).2) else (((ofB t).1.1, (ofB t).1.2.1, (ofB t).1.2.2, n), 0)
def ofE (s : ByteArray) : (Int × Int × List OpT × Int) × Int :=
  let t := bigR s 0 0
  let u := textR s t.2.1 t.2.2 65536
  ofEndE t.1 u.1 (endV s u.2.1.toNat u.2.2)
def sameE (c r : Int) (l : List OpT) (ts c2 r2 : Int) (l2 : List OpT) (ts2 : Int) : Bool := if ts = ts2 then sameB c r l c2 r2 l2 else false
theorem sameE_y {c r c2 r2 ts ts2 : Int} {l l2 : List OpT} (h : ts = ts2) : sameB c r l c2 r2 l2 = sameE c r l ts c2 r2 l2 ts2 := by unfold sameE; rw [if_pos h]
theorem sameE_n {c r c2 r2 ts ts2 : Int} {l l2 : List OpT} (h : ¬ ts = ts2) : false = sameE c r l ts c2 r2 l2 ts2 := by unfold sameE; rw [if_neg h]
theorem sameE_refl (c r : Int) (l : List OpT) (ts : Int) : sameE c r l ts c r l ts = true := by rw [← sameE_y rfl, sameB_refl]
theorem MapG.eq {K V : Type} [DecidableEq K] {kv : K → Value} {enc : V → Value} {z : V} {w : World} {B : Nat} {g g' : K → V} (h : MapG kv enc z w B g) (e : g = g') : MapG kv enc z w B g' := e ▸ h

set_option maxRecDepth 100000 in
theorem itemCheck_any (c : Int) (r : Int) (v : Value) (l : List OpT) (ts : Int) (w : World) (hs : SliceOf opE 3 w v l) :
    Calls Tryz.prog 74 #[.agg #[.int .i64 c, .int .i64 r, v, .int .u64 ts]] w fun e w' => e = .returned (.int .i64 (chkB c r l)) ∧ Below w.heap.size w w' := by
 have hB0 := Below.refl w.heap.size w;have hl_hs := sl_len hs;refine co_enter (n := 6) Tryz.func74 rfl rfl rfl [(0, .agg #[.int .i64 c, .int .i64 r, v, .int .u64 ts])] rfl (fun a s => ?_);refine q2 ?_;refine pw s rfl (op_new (v := fun N => pt N 0) (T := 98) (cs := #[.int .i64 c, .int .i64 r, v, .int .u64 ts]) (by kernel_rfl) (by kernel_rfl) (by kernel_rfl)) ?_;rintro _ w2 a1 ⟨N3, rfl, hN6, hz7, hk5, hg4⟩ s;have hz8 := hg4.size
 try dsimp only at s
 refine pk0 (v := .int .i64 0) s rfl fun _ s => q3 ?_;refine pk0 (v := pt N3 0) s rfl fun _ s => ?_;refine pk (v := .agg #[.int .i64 c, .int .i64 r, v]) s rfl (rn_loadN rfl rfl Tryz.underlying29 rfl (by kernel_rfl) (blk_part hk5 0 (by rfl))) fun _ s => ?_;have hB14 := hb_new hB0 hg4;refine pw s rfl (op_call (args := #[.agg #[.int .i64 c, .int .i64 r, v]]) (R := fun res xw => res = .int .i64 (chkB c r l) ∧ Below w2.heap.size w2 xw) rfl rfl rfl (by kernel_rfl) (by kernel_rfl) (Tryz.call72 _ _) (opsCheck_any c r v l w2 (hs.below hB14)) (by rintro e x ⟨rfl, hb15⟩; exact ⟨_, rfl, ⟨rfl, hb15⟩⟩)) ?_;rintro _ w13 a12 ⟨rfl, hb15⟩ s;have hz16 := hb15.size;refine pk0 (v := .int .i64 (chkB c r l)) s rfl fun _ s => q4 ?_;refine co_ret1 s rfl rfl ?_;have hB18 := hb_call hB14 hb15;exact ⟨rfl, hB18⟩
set_option maxRecDepth 100000 in
theorem ritemCheck_any (c : Int) (r : Int) (v : Value) (l : List OpT) (ts : Int) (w : World) (hs : SliceOf opE 3 w v l) :
    Calls Tryz.prog 121 #[.agg #[.int .i64 c, .int .i64 r, v, .int .u64 ts]] w fun e w' => e = .returned (.int .i64 (chkB c r l)) ∧ Below w.heap.size w w' := by
 have hB0 := Below.refl w.heap.size w;have hl_hs := sl_len hs;refine co_enter (n := 6) Tryz.func121 rfl rfl rfl [(0, .agg #[.int .i64 c, .int .i64 r, v, .int .u64 ts])] rfl (fun a s => ?_);refine q2 ?_;refine pw s rfl (op_new (v := fun N => pt N 0) (T := 98) (cs := #[.int .i64 c, .int .i64 r, v, .int .u64 ts]) (by kernel_rfl) (by kernel_rfl) (by kernel_rfl)) ?_;rintro _ w2 a1 ⟨N3, rfl, hN6, hz7, hk5, hg4⟩ s;have hz8 := hg4.size
 try dsimp only at s
 refine pk0 (v := .int .i64 0) s rfl fun _ s => q3 ?_;refine pk0 (v := pt N3 0) s rfl fun _ s => ?_;refine pk (v := .agg #[.int .i64 c, .int .i64 r, v]) s rfl (rn_loadN rfl rfl Tryz.underlying29 rfl (by kernel_rfl) (blk_part hk5 0 (by rfl))) fun _ s => ?_;have hB14 := hb_new hB0 hg4;refine pw s rfl (op_call (args := #[.agg #[.int .i64 c, .int .i64 r, v]]) (R := fun res xw => res = .int .i64 (chkB c r l) ∧ Below w2.heap.size w2 xw) rfl rfl rfl (by kernel_rfl) (by kernel_rfl) (Tryz.call80 _ _) (ropsCheck_any c r v l w2 (hs.below hB14)) (by rintro e x ⟨rfl, hb15⟩; exact ⟨_, rfl, ⟨rfl, hb15⟩⟩)) ?_;rintro _ w13 a12 ⟨rfl, hb15⟩ s;have hz16 := hb15.size;refine pk0 (v := .int .i64 (chkB c r l)) s rfl fun _ s => q4 ?_;refine co_ret1 s rfl rfl ?_;have hB18 := hb_call hB14 hb15;exact ⟨rfl, hB18⟩
set_option maxRecDepth 100000 in
theorem itemPut_any (c : Int) (r : Int) (v : Value) (l : List OpT) (ts : Int) (w : World) (hs : SliceOf opE 3 w v l) (hts : 0 ≤ ts ∧ ts < 18446744073709551616) :
    Calls Tryz.prog 62 #[.agg #[.int .i64 c, .int .i64 r, v, .int .u64 ts]] w fun e w' => e = .returned (.tuple #[.string (putE c r l ts), .int .i64 (chkB c r l)]) ∧ Below w.heap.size w w' := by
 have hsm := putB_small (c := c) (r := r) (l := l);have hB0 := Below.refl w.heap.size w;have hl_hs := sl_len hs;refine co_enter (n := 24) Tryz.func62 rfl rfl rfl [(0, .agg #[.int .i64 c, .int .i64 r, v, .int .u64 ts])] rfl (fun a s => ?_);refine q2 ?_;refine pw s rfl (op_new (v := fun N => pt N 0) (T := 98) (cs := #[.int .i64 c, .int .i64 r, v, .int .u64 ts]) (by kernel_rfl) (by kernel_rfl) (by kernel_rfl)) ?_;rintro _ w2 a1 ⟨N3, rfl, hN6, hz7, hk5, hg4⟩ s;have hz8 := hg4.size
 try dsimp only at s
 refine pk0 (v := .string (⟨#[]⟩)) s rfl fun _ s => ?_;refine pk0 (v := .int .i64 0) s rfl fun _ s => q3 ?_;refine pk0 (v := pt N3 0) s rfl fun _ s => ?_;refine pk (v := .agg #[.int .i64 c, .int .i64 r, v]) s rfl (rn_loadN rfl rfl Tryz.underlying29 rfl (by kernel_rfl) (blk_part hk5 0 (by rfl))) fun _ s => ?_;have hB15 := hb_new hB0 hg4;refine pw s rfl (op_call (args := #[.agg #[.int .i64 c, .int .i64 r, v]]) (R := fun res xw => res = .tuple #[.string (putB c r l), .int .i64 (chkB c r l)] ∧ Below w2.heap.size w2 xw) rfl rfl rfl (by kernel_rfl) (by kernel_rfl) (Tryz.call61 _ _) (opsPut_any c r v l w2 (hs.below hB15)) (by rintro e x ⟨rfl, hb16⟩; exact ⟨_, rfl, ⟨rfl, hb16⟩⟩)) ?_;rintro _ w14 a13 ⟨rfl, hb16⟩ s;have hz17 := hb16.size;refine pk0 (v := .tuple #[.string (putB c r l), .int .i64 (chkB c r l)]) s rfl fun _ s => ?_;refine pk0 (v := .string (putB c r l)) s rfl fun _ s => ?_;refine pk0 (v := .int .i64 (chkB c r l)) s rfl fun _ s => ?_;refine pk0 (v := .string (putB c r l)) s rfl fun _ s => ?_;refine pk0 (v := .int .i64 (chkB c r l)) s rfl fun _ s => q6 ?_;refine pk0 (v := .int .i64 (chkB c r l)) s rfl fun _ s => ?_;refine pk0 (v := .bool (chkB c r l != 0)) s rfl fun _ s => q1 ?_;have hB26 := hb_call hB15 hb16;cases hc25 : (chkB c r l != 0)
 ·
  rw [hc25] at s;have hp27 : ¬ (chkB c r l ≠ 0) := by first | simpa using hc25 | simpa [and_assoc] using hc25
  refine co_false s rfl <| q0 <| co_seq ?_;refine dr_gen (fun x => Below w.heap.size w x ∧ Blk x N3 98 #[.int .i64 c, .int .i64 r, v, .int .u64 ts]) (by kernel_rfl) (fun w28 hg29 => ?_) (fun w28 hg29 => ?_)
  ·
   have hz30 := hg29.size;have hB31 := hb_new hB26 hg29;have hk32 := hk5.below hb16;have hk33 := hk32.kept hg29 (by simp);exact ⟨hB31, hk33⟩
  have hz34 := hg29.size;have hB35 := hb_new hB26 hg29;have hk36 := hk5.below hb16;have hk37 := hk36.kept hg29 (by simp);refine dk0 1 (v := pt N3 3) s rfl rfl ⟨hB35, hk37⟩ fun _ s => ?_;refine dk 2 (v := .int .u64 ts) s rfl rfl ⟨hB35, hk37⟩ (fun x hx => (rn_load1 rfl rfl Tryz.isAgg22 (hx.2.cell rfl))) fun _ s => ?_;refine dk0 4 (v := .string (putB c r l)) s rfl rfl ⟨hB35, hk37⟩ fun _ s => ?_;refine d1 0 s rfl rfl (op_call (args := #[]) (R := fun res xw => ∃ b : Nat, res = pt b 0 ∧ b = w28.heap.size ∧ OW b [] 0 xw ∧ Below w28.heap.size w28 xw) rfl rfl rfl (by kernel_rfl) (by kernel_rfl) (Tryz.call18 _ _) (ow_new w28) (by rintro e x ⟨b, rfl, h0, h1, h2⟩; exact ⟨_, rfl, b, rfl, h0, h1, h2⟩)) ?_ ?_
  ·
   rintro _ w42 ⟨b43, rfl, hN44, ho45, hb46⟩;have hz47 := hb46.size;have hl48 := ho45.lt;have hB49 := hb_call hB35 hb46;have hk50 := hk37.below hb46;exact ⟨hB49, hk50⟩
  rintro _ w42 a41 ⟨b43, rfl, hN44, ho45, hb46⟩ s;have hz47 := hb46.size;have hl48 := ho45.lt;have hB49 := hb_call hB35 hb46;have hk50 := hk37.below hb46;refine d1 3 s rfl rfl (op_call (args := #[pt b43 0, .int .u64 ts]) (R := fun res xw => res = pt b43 0 ∧ OW b43 (([] : List UInt8) ++ putL ts) (0 + 9) xw ∧ But (Rw w42 b43) w42 xw) rfl rfl rfl (by kernel_rfl) (by kernel_rfl) (Tryz.call58 _ _) (ow_big b43 ([]) 0 ts w42 ho45 (by omega) (by omega) (by omega)) (by rintro e x ⟨rfl, h1, h2⟩; exact ⟨_, rfl, rfl, h1, h2⟩)) ?_ ?_
  ·
   rintro _ w52 ⟨rfl, ho53, hx54⟩;have hz55 := hx54.size;have hl56 := ho53.lt;have hB57 := hb_wr hB49 ho45 (by omega) hx54;have hk58 := blk_wr hk50 ho45 (by decide) (by omega) hx54;exact ⟨hB57, hk58⟩
  rintro _ w52 a51 ⟨rfl, ho53, hx54⟩ s;have hz55 := hx54.size;have hl56 := ho53.lt;have hB57 := hb_wr hB49 ho45 (by omega) hx54;have hk58 := blk_wr hk50 ho45 (by decide) (by omega) hx54;refine d1 5 s rfl rfl (op_call (args := #[pt b43 0, .string (putB c r l)]) (R := fun res xw => res = pt b43 0 ∧ OW b43 ((([] : List UInt8) ++ putL ts) ++ (putL ((putB c r l : ByteArray).size : Int) ++ (putB c r l : ByteArray).data.toList)) (0 + 9 + (9 + (putB c r l : ByteArray).size)) xw ∧ But (Rw w52 b43) w52 xw) rfl rfl rfl (by kernel_rfl) (by kernel_rfl) (Tryz.call59 _ _) (ow_text b43 (([] : List UInt8) ++ putL ts) (0 + 9) (putB c r l) w52 ho53 (by first | omega | (simp; done) | (simp; omega))) (by rintro e x ⟨rfl, h1, h2⟩; exact ⟨_, rfl, rfl, h1, h2⟩)) ?_ ?_
  ·
   rintro _ w60 ⟨rfl, ho61, hx62⟩;have hz63 := hx62.size;have hl64 := ho61.lt;have hB65 := hb_wr hB57 ho53 (by omega) hx62;have hk66 := blk_wr hk58 ho53 (by decide) (by omega) hx62;exact ⟨hB65, hk66⟩
  rintro _ w60 a59 ⟨rfl, ho61, hx62⟩ s;have hz63 := hx62.size;have hl64 := ho61.lt;have hB65 := hb_wr hB57 ho53 (by omega) hx62;have hk66 := blk_wr hk58 ho53 (by decide) (by omega) hx62;refine d1 6 s rfl rfl (op_call (args := #[pt b43 0]) (R := fun res xw => res = .tuple #[.string (⟨((([] : List UInt8) ++ putL ts) ++ (putL ((putB c r l : ByteArray).size : Int) ++ (putB c r l : ByteArray).data.toList)).toArray⟩), .int .i64 0] ∧ Below w60.heap.size w60 xw) rfl rfl rfl (by kernel_rfl) (by kernel_rfl) (Tryz.call22 _ _) (ow_done b43 ((([] : List UInt8) ++ putL ts) ++ (putL ((putB c r l : ByteArray).size : Int) ++ (putB c r l : ByteArray).data.toList)) (0 + 9 + (9 + (putB c r l : ByteArray).size)) w60 ho61) (by rintro e x ⟨rfl, h2⟩; exact ⟨_, rfl, rfl, h2⟩)) ?_ ?_
  ·
   rintro _ w68 ⟨rfl, hb69⟩;have hz70 := hb69.size;have hB71 := hb_call hB65 hb69;have hk72 := hk66.below hb69;exact ⟨hB71, hk72⟩
  rintro _ w68 a67 ⟨rfl, hb69⟩ s;have hz70 := hb69.size;have hB71 := hb_call hB65 hb69;have hk72 := hk66.below hb69;refine dk0 7 (v := .string (⟨((([] : List UInt8) ++ putL ts) ++ (putL ((putB c r l : ByteArray).size : Int) ++ (putB c r l : ByteArray).data.toList)).toArray⟩)) s rfl rfl ⟨hB71, hk72⟩ fun _ s => ?_;refine dk0 8 (v := .int .i64 0) s rfl rfl ⟨hB71, hk72⟩ fun _ s => ?_;refine dk0 9 (v := .string (⟨((([] : List UInt8) ++ putL ts) ++ (putL ((putB c r l : ByteArray).size : Int) ++ (putB c r l : ByteArray).data.toList)).toArray⟩)) s rfl rfl ⟨hB71, hk72⟩ fun _ s => ?_;refine dk0 10 (v := .int .i64 0) s rfl rfl ⟨hB71, hk72⟩ fun _ s => ?_;refine dr_done (by kernel_rfl) ?_;refine co_then <| wp_ret ?_;refine co_ret2 s rfl rfl rfl ?_;exact ⟨by rw [putE_ok (by omega), show chkB c r l = 0 by omega]; simp [putEL], hB71⟩
 rw [hc25] at s;have hp77 : chkB c r l ≠ 0 := by first | simpa using hc25 | simpa [and_assoc] using hc25
 refine co_true s rfl <| q2 ?_;refine pk0 (v := .int .i64 (chkB c r l)) s rfl fun _ s => ?_;refine pk0 (v := .string (⟨#[]⟩)) s rfl fun _ s => ?_;refine pk0 (v := .int .i64 (chkB c r l)) s rfl fun _ s => q5 ?_;refine co_ret2 s rfl rfl rfl ?_;exact ⟨by rw [putE_err (by assumption)], hB26⟩
set_option maxRecDepth 100000 in
theorem ritemPut_any (c : Int) (r : Int) (v : Value) (l : List OpT) (ts : Int) (w : World) (hs : SliceOf opE 3 w v l) (hts : 0 ≤ ts ∧ ts < 18446744073709551616) :
    Calls Tryz.prog 70 #[.agg #[.int .i64 c, .int .i64 r, v, .int .u64 ts]] w fun e w' => e = .returned (.tuple #[.string (putE c r l ts), .int .i64 (chkB c r l)]) ∧ Below w.heap.size w w' := by
 have hsm := putB_small (c := c) (r := r) (l := l);have hB0 := Below.refl w.heap.size w;have hl_hs := sl_len hs;refine co_enter (n := 29) Tryz.func70 rfl rfl rfl [(0, .agg #[.int .i64 c, .int .i64 r, v, .int .u64 ts])] rfl (fun a s => ?_);refine q2 ?_;refine pw s rfl (op_new (v := fun N => pt N 0) (T := 98) (cs := #[.int .i64 c, .int .i64 r, v, .int .u64 ts]) (by kernel_rfl) (by kernel_rfl) (by kernel_rfl)) ?_;rintro _ w2 a1 ⟨N3, rfl, hN6, hz7, hk5, hg4⟩ s;have hz8 := hg4.size
 try dsimp only at s
 refine pk0 (v := .string (⟨#[]⟩)) s rfl fun _ s => ?_;refine pk0 (v := .int .i64 0) s rfl fun _ s => q3 ?_;refine pk0 (v := pt N3 0) s rfl fun _ s => ?_;refine pk (v := .agg #[.int .i64 c, .int .i64 r, v]) s rfl (rn_loadN rfl rfl Tryz.underlying29 rfl (by kernel_rfl) (blk_part hk5 0 (by rfl))) fun _ s => ?_;have hB15 := hb_new hB0 hg4;refine pw s rfl (op_call (args := #[.agg #[.int .i64 c, .int .i64 r, v]]) (R := fun res xw => res = .tuple #[.string (putB c r l), .int .i64 (chkB c r l)] ∧ Below w2.heap.size w2 xw) rfl rfl rfl (by kernel_rfl) (by kernel_rfl) (Tryz.call69 _ _) (ropsPut_any c r v l w2 (hs.below hB15)) (by rintro e x ⟨rfl, hb16⟩; exact ⟨_, rfl, ⟨rfl, hb16⟩⟩)) ?_;rintro _ w14 a13 ⟨rfl, hb16⟩ s;have hz17 := hb16.size;refine pk0 (v := .tuple #[.string (putB c r l), .int .i64 (chkB c r l)]) s rfl fun _ s => ?_;refine pk0 (v := .string (putB c r l)) s rfl fun _ s => ?_;refine pk0 (v := .int .i64 (chkB c r l)) s rfl fun _ s => ?_;refine pk0 (v := .string (putB c r l)) s rfl fun _ s => ?_;refine pk0 (v := .int .i64 (chkB c r l)) s rfl fun _ s => q6 ?_;refine pk0 (v := .int .i64 (chkB c r l)) s rfl fun _ s => ?_;refine pk0 (v := .bool (chkB c r l != 0)) s rfl fun _ s => q1 ?_;have hB26 := hb_call hB15 hb16;cases hc25 : (chkB c r l != 0)
 ·
  rw [hc25] at s;have hp27 : ¬ (chkB c r l ≠ 0) := by first | simpa using hc25 | simpa [and_assoc] using hc25
  refine co_false s rfl <| q7 ?_;refine pk0 (v := .agg #[.string (⟨#[]⟩), .int .i64 0]) s rfl fun _ s => ?_;refine pw s rfl (op_new (v := fun N => pt N 0) (T := 60) (cs := #[.string (⟨#[]⟩), .int .i64 0]) (by kernel_rfl) (by kernel_rfl) (by kernel_rfl)) ?_;rintro _ w30 a29 ⟨N31, rfl, hN34, hz35, hk33, hg32⟩ s;have hz36 := hg32.size
  try dsimp only at s
  refine pk0 (v := pt N31 0) s rfl fun _ s => q3 ?_;refine pk0 (v := pt N31 0) s rfl fun _ s => ?_;refine pk0 (v := pt N3 3) s rfl fun _ s => ?_;have hk40 := hk5.below hb16;have hk41 := hk40.kept hg32 (by simp);refine pk (v := .int .u64 ts) s rfl (rn_load1 rfl rfl Tryz.isAgg22 (hk41.cell rfl)) fun _ s => ?_;have ho45 := ox_of hk33;refine pw s rfl (op_call (args := #[pt N31 0, .int .u64 ts]) (R := fun res xw => res = .tuple #[] ∧ OX N31 (([] : List UInt8) ++ putL ts) (0 + 9) xw ∧ w30.grownBy xw (some N31)) rfl rfl rfl (by kernel_rfl) (by kernel_rfl) (Tryz.call65 _ _) (ox_big N31 ([]) 0 ts w30 ho45 (by omega) (by omega) (by omega)) (by rintro e x ⟨rfl, h1, h2⟩; exact ⟨_, rfl, rfl, h1, h2⟩)) ?_;rintro _ w44 a43 ⟨rfl, ho46, hx47⟩ s;have hz48 := hx47.size;have hl49 := ho46.lt;refine q3 ?_;refine pk0 (v := pt N31 0) s rfl fun _ s => ?_;refine pk0 (v := .string (putB c r l)) s rfl fun _ s => ?_;refine pw s rfl (op_call (args := #[pt N31 0, .string (putB c r l)]) (R := fun res xw => res = .tuple #[] ∧ OX N31 ((([] : List UInt8) ++ putL ts) ++ (putL ((putB c r l : ByteArray).size : Int) ++ (putB c r l : ByteArray).data.toList)) (0 + 9 + (9 + (putB c r l : ByteArray).size)) xw ∧ w44.grownBy xw (some N31)) rfl rfl rfl (by kernel_rfl) (by kernel_rfl) (Tryz.call67 _ _) (ox_text N31 (([] : List UInt8) ++ putL ts) (0 + 9) (putB c r l) w44 ho46 (by first | omega | (simp; done) | (simp; omega))) (by rintro e x ⟨rfl, h1, h2⟩; exact ⟨_, rfl, rfl, h1, h2⟩)) ?_;rintro _ w53 a52 ⟨rfl, ho54, hx55⟩ s;have hz56 := hx55.size;have hl57 := ho54.lt;refine q3 ?_;refine pk0 (v := pt N31 0) s rfl fun _ s => ?_;refine pw s rfl (op_call (args := #[pt N31 0]) (R := fun res xw => res = .tuple #[.string (⟨((([] : List UInt8) ++ putL ts) ++ (putL ((putB c r l : ByteArray).size : Int) ++ (putB c r l : ByteArray).data.toList)).toArray⟩), .int .i64 0] ∧ Below w53.heap.size w53 xw) rfl rfl rfl (by kernel_rfl) (by kernel_rfl) (Tryz.call26 _ _) (ox_done N31 ((([] : List UInt8) ++ putL ts) ++ (putL ((putB c r l : ByteArray).size : Int) ++ (putB c r l : ByteArray).data.toList)) (0 + 9 + (9 + (putB c r l : ByteArray).size)) w53 ho54) (by rintro e x ⟨rfl, h2⟩; exact ⟨_, rfl, rfl, h2⟩)) ?_;rintro _ w60 a59 ⟨rfl, hb61⟩ s;have hz62 := hb61.size;refine pk0 (v := .string (⟨((([] : List UInt8) ++ putL ts) ++ (putL ((putB c r l : ByteArray).size : Int) ++ (putB c r l : ByteArray).data.toList)).toArray⟩)) s rfl fun _ s => ?_;refine pk0 (v := .int .i64 0) s rfl fun _ s => ?_;refine pk0 (v := .string (⟨((([] : List UInt8) ++ putL ts) ++ (putL ((putB c r l : ByteArray).size : Int) ++ (putB c r l : ByteArray).data.toList)).toArray⟩)) s rfl fun _ s => ?_;refine pk0 (v := .int .i64 0) s rfl fun _ s => q4 ?_;refine co_ret2 s rfl rfl rfl ?_;have hB67 := hb_new hB26 hg32;have hB68 := hb_at hB67 hx47 (by omega);have hB69 := hb_at hB68 hx55 (by omega);have hB70 := hb_call hB69 hb61;exact ⟨by rw [putE_ok (by omega), show chkB c r l = 0 by omega]; simp [putEL], hB70⟩
 rw [hc25] at s;have hp71 : chkB c r l ≠ 0 := by first | simpa using hc25 | simpa [and_assoc] using hc25
 refine co_true s rfl <| q2 ?_;refine pk0 (v := .int .i64 (chkB c r l)) s rfl fun _ s => ?_;refine pk0 (v := .string (⟨#[]⟩)) s rfl fun _ s => ?_;refine pk0 (v := .int .i64 (chkB c r l)) s rfl fun _ s => q5 ?_;refine co_ret2 s rfl rfl rfl ?_;exact ⟨by rw [putE_err (by assumption)], hB26⟩
set_option maxRecDepth 100000 in
theorem itemSame_any (c : Int) (r : Int) (v : Value) (l : List OpT) (ts : Int) (c2 : Int) (r2 : Int) (v2 : Value) (l2 : List OpT) (ts2 : Int) (w : World) (hs : SliceOf opE 3 w v l) (hs2 : SliceOf opE 3 w v2 l2) :
    Calls Tryz.prog 91 #[.agg #[.int .i64 c, .int .i64 r, v, .int .u64 ts], .agg #[.int .i64 c2, .int .i64 r2, v2, .int .u64 ts2]] w fun e w' => e = .returned (.bool (sameE c r l ts c2 r2 l2 ts2)) ∧ Below w.heap.size w w' := by
 have hB0 := Below.refl w.heap.size w;have hl_hs := sl_len hs;have hl_hs2 := sl_len hs2;refine co_enter (n := 17) Tryz.func91 rfl rfl rfl [(0, .agg #[.int .i64 c, .int .i64 r, v, .int .u64 ts]), (1, .agg #[.int .i64 c2, .int .i64 r2, v2, .int .u64 ts2])] rfl (fun a s => ?_);refine q2 ?_;refine pw s rfl (op_new (v := fun N => pt N 0) (T := 98) (cs := #[.int .i64 c, .int .i64 r, v, .int .u64 ts]) (by kernel_rfl) (by kernel_rfl) (by kernel_rfl)) ?_;rintro _ w2 a1 ⟨N3, rfl, hN6, hz7, hk5, hg4⟩ s;have hz8 := hg4.size
 try dsimp only at s
 refine pw s rfl (op_new (v := fun N => pt N 0) (T := 98) (cs := #[.int .i64 c2, .int .i64 r2, v2, .int .u64 ts2]) (by kernel_rfl) (by kernel_rfl) (by kernel_rfl)) ?_;rintro _ w10 a9 ⟨N11, rfl, hN14, hz15, hk13, hg12⟩ s;have hz16 := hg12.size
 try dsimp only at s
 refine pk0 (v := .bool false) s rfl fun _ s => q3 ?_;refine pk0 (v := pt N3 3) s rfl fun _ s => ?_;have hk19 := hk5.kept hg12 (by simp);refine pk (v := .int .u64 ts) s rfl (rn_load1 rfl rfl Tryz.isAgg22 (hk19.cell rfl)) fun _ s => ?_;refine pk0 (v := pt N11 3) s rfl fun _ s => ?_;refine pk (v := .int .u64 ts2) s rfl (rn_load1 rfl rfl Tryz.isAgg22 (hk13.cell rfl)) fun _ s => ?_;refine pk0 (v := .bool (ts == ts2)) s rfl fun _ s => ?_;refine pk0 (v := .bool (ts == ts2)) s rfl fun _ s => ?_;have hB26 := hb_new hB0 hg4;have hB27 := hb_new hB26 hg12;cases hc25 : (ts == ts2)
 ·
  rw [hc25] at s;have hp28 : ¬ (ts = ts2) := by first | simpa using hc25 | simpa [and_assoc] using hc25
  refine psk s rfl fun _ s => ?_;refine psk s rfl fun _ s => ?_;refine psk s rfl fun _ s => ?_;refine psk s rfl fun _ s => ?_;refine psk s rfl fun _ s => ?_;refine pk0 (v := .bool false) s rfl fun _ s => ?_;refine pk0 (v := .bool false) s rfl fun _ s => q4 ?_;refine co_ret1 s rfl rfl ?_;exact ⟨ret_bool (sameE_n (by omega)), hB27⟩
 rw [hc25] at s;have hp36 : ts = ts2 := by first | simpa using hc25 | simpa [and_assoc] using hc25
 refine pk0 (v := pt N3 0) s rfl fun _ s => ?_;refine pk (v := .agg #[.int .i64 c, .int .i64 r, v]) s rfl (rn_loadN rfl rfl Tryz.underlying29 rfl (by kernel_rfl) (blk_part hk19 0 (by rfl))) fun _ s => ?_;refine pk0 (v := pt N11 0) s rfl fun _ s => ?_;refine pk (v := .agg #[.int .i64 c2, .int .i64 r2, v2]) s rfl (rn_loadN rfl rfl Tryz.underlying29 rfl (by kernel_rfl) (blk_part hk13 0 (by rfl))) fun _ s => ?_;refine pw s rfl (op_call (args := #[.agg #[.int .i64 c, .int .i64 r, v], .agg #[.int .i64 c2, .int .i64 r2, v2]]) (R := fun res xw => res = .bool (sameB c r l c2 r2 l2) ∧ Below w10.heap.size w10 xw) rfl rfl rfl (by kernel_rfl) (by kernel_rfl) (Tryz.call89 _ _) (opsSame_any c r v l c2 r2 v2 l2 w10 (hs.below hB27) (hs2.below hB27)) (by rintro e x ⟨rfl, hb43⟩; exact ⟨_, rfl, ⟨rfl, hb43⟩⟩)) ?_;rintro _ w42 a41 ⟨rfl, hb43⟩ s;have hz44 := hb43.size;refine pk0 (v := .bool (sameB c r l c2 r2 l2)) s rfl fun _ s => ?_;refine pk0 (v := .bool (sameB c r l c2 r2 l2)) s rfl fun _ s => q4 ?_;refine co_ret1 s rfl rfl ?_;have hB47 := hb_call hB27 hb43;exact ⟨ret_bool (sameE_y (by omega)), hB47⟩
set_option maxRecDepth 100000 in
theorem ritemSame_any (c : Int) (r : Int) (v : Value) (l : List OpT) (ts : Int) (c2 : Int) (r2 : Int) (v2 : Value) (l2 : List OpT) (ts2 : Int) (w : World) (hs : SliceOf opE 3 w v l) (hs2 : SliceOf opE 3 w v2 l2) :
    Calls Tryz.prog 84 #[.agg #[.int .i64 c, .int .i64 r, v, .int .u64 ts], .agg #[.int .i64 c2, .int .i64 r2, v2, .int .u64 ts2]] w fun e w' => e = .returned (.bool (sameE c r l ts c2 r2 l2 ts2)) ∧ Below w.heap.size w w' := by
 have hB0 := Below.refl w.heap.size w;have hl_hs := sl_len hs;have hl_hs2 := sl_len hs2;refine co_enter (n := 17) Tryz.func84 rfl rfl rfl [(0, .agg #[.int .i64 c, .int .i64 r, v, .int .u64 ts]), (1, .agg #[.int .i64 c2, .int .i64 r2, v2, .int .u64 ts2])] rfl (fun a s => ?_);refine q2 ?_;refine pw s rfl (op_new (v := fun N => pt N 0) (T := 98) (cs := #[.int .i64 c, .int .i64 r, v, .int .u64 ts]) (by kernel_rfl) (by kernel_rfl) (by kernel_rfl)) ?_;rintro _ w2 a1 ⟨N3, rfl, hN6, hz7, hk5, hg4⟩ s;have hz8 := hg4.size
 try dsimp only at s
 refine pw s rfl (op_new (v := fun N => pt N 0) (T := 98) (cs := #[.int .i64 c2, .int .i64 r2, v2, .int .u64 ts2]) (by kernel_rfl) (by kernel_rfl) (by kernel_rfl)) ?_;rintro _ w10 a9 ⟨N11, rfl, hN14, hz15, hk13, hg12⟩ s;have hz16 := hg12.size
 try dsimp only at s
 refine pk0 (v := .bool false) s rfl fun _ s => q3 ?_;refine pk0 (v := pt N3 3) s rfl fun _ s => ?_;have hk19 := hk5.kept hg12 (by simp);refine pk (v := .int .u64 ts) s rfl (rn_load1 rfl rfl Tryz.isAgg22 (hk19.cell rfl)) fun _ s => ?_;refine pk0 (v := pt N11 3) s rfl fun _ s => ?_;refine pk (v := .int .u64 ts2) s rfl (rn_load1 rfl rfl Tryz.isAgg22 (hk13.cell rfl)) fun _ s => ?_;refine pk0 (v := .bool (ts == ts2)) s rfl fun _ s => ?_;refine pk0 (v := .bool (ts == ts2)) s rfl fun _ s => ?_;have hB26 := hb_new hB0 hg4;have hB27 := hb_new hB26 hg12;cases hc25 : (ts == ts2)
 ·
  rw [hc25] at s;have hp28 : ¬ (ts = ts2) := by first | simpa using hc25 | simpa [and_assoc] using hc25
  refine psk s rfl fun _ s => ?_;refine psk s rfl fun _ s => ?_;refine psk s rfl fun _ s => ?_;refine psk s rfl fun _ s => ?_;refine psk s rfl fun _ s => ?_;refine pk0 (v := .bool false) s rfl fun _ s => ?_;refine pk0 (v := .bool false) s rfl fun _ s => q4 ?_;refine co_ret1 s rfl rfl ?_;exact ⟨ret_bool (sameE_n (by omega)), hB27⟩
 rw [hc25] at s;have hp36 : ts = ts2 := by first | simpa using hc25 | simpa [and_assoc] using hc25
 refine pk0 (v := pt N3 0) s rfl fun _ s => ?_;refine pk (v := .agg #[.int .i64 c, .int .i64 r, v]) s rfl (rn_loadN rfl rfl Tryz.underlying29 rfl (by kernel_rfl) (blk_part hk19 0 (by rfl))) fun _ s => ?_;refine pk0 (v := pt N11 0) s rfl fun _ s => ?_;refine pk (v := .agg #[.int .i64 c2, .int .i64 r2, v2]) s rfl (rn_loadN rfl rfl Tryz.underlying29 rfl (by kernel_rfl) (blk_part hk13 0 (by rfl))) fun _ s => ?_;refine pw s rfl (op_call (args := #[.agg #[.int .i64 c, .int .i64 r, v], .agg #[.int .i64 c2, .int .i64 r2, v2]]) (R := fun res xw => res = .bool (sameB c r l c2 r2 l2) ∧ Below w10.heap.size w10 xw) rfl rfl rfl (by kernel_rfl) (by kernel_rfl) (Tryz.call31 _ _) (ropsSame_any c r v l c2 r2 v2 l2 w10 (hs.below hB27) (hs2.below hB27)) (by rintro e x ⟨rfl, hb43⟩; exact ⟨_, rfl, ⟨rfl, hb43⟩⟩)) ?_;rintro _ w42 a41 ⟨rfl, hb43⟩ s;have hz44 := hb43.size;refine pk0 (v := .bool (sameB c r l c2 r2 l2)) s rfl fun _ s => ?_;refine pk0 (v := .bool (sameB c r l c2 r2 l2)) s rfl fun _ s => q4 ?_;refine co_ret1 s rfl rfl ?_;have hB47 := hb_call hB27 hb43;exact ⟨ret_bool (sameE_y (by omega)), hB47⟩
end Go.Proofs.YtcbagajjgbfgdaaGreat

/- A text's bytes, by the index. Conditions: none. -/
namespace Go.Proofs.YtcbagajjgbfgdaaGreat
open Go.RowKit Go.PlainAid Go.ChangeMaps
def byteAt (s : ByteArray) (i : Nat) : Int := ((s.data[i]?.getD 0).toNat : Int)
section
variable {P : Program} {n : Nat} {m : List (Nat × Value)} {w x : World} {o : Oper} {r pos : Nat} {s : ByteArray} {q : Operand} {t : TypeId}
theorem byteAt_get {k : Nat} (h : k < s.size) : byteAt s k = ((s[k]'h).toNat : Int) := by
  unfold byteAt
  have : s.data[k]? = some (s[k]'h) := Array.getElem?_eq_getElem h
  rw [this]; rfl
theorem rn_indexStr {r : Operand} {k : IntKind} {i : Int} {j : Nat} (ho : o.op = .index t q r) (hq : ev m q = some (.string s)) (hr : ev m r = some (.int k i)) (ht : P.underlying t = some .string) (hij : i = (j : Nat)) (hj : j < s.size) : (execOp (lk m) o).run P w = .ok (.value (.int .u8 (byteAt s j))) w := by
  subst hij
  unfold execOp
  simp only [ho, lk_ev hq, lk_ev hr, Sem.run_bind, run_index_string w t s k _ ht]
  simp [hj, byteAt_get hj]
end
end Go.Proofs.YtcbagajjgbfgdaaGreat

/- A range over a text: the call's own place among its bytes. Conditions: the bytes are below 128. -/
namespace Go.Proofs.YtcbagajjgbfgdaaGreat
open Go.RowKit Go.PlainAid Go.ChangeMaps
def SIt (w : World) (r : Nat) (s : ByteArray) (pos : Nat) : Prop := w.heap[r]? = some (.stringIter s pos)
def Ascii (s : ByteArray) : Prop := ∀ i (h : i < s.size), (s[i]'h).toNat < 128
section
variable {P : Program} {n : Nat} {m : List (Nat × Value)} {w x : World} {o : Oper} {r pos : Nat} {s : ByteArray} {q : Operand} {t : TypeId}
theorem SIt.lt (h : SIt w r s pos) : r < w.heap.size := (Array.getElem?_eq_some_iff.1 (show w.heap[r]? = _ from h)).1
theorem SIt.kept {row : Option Nat} (h : SIt w r s pos) (hg : w.grownBy x row) (h2 : row ≠ some r) : SIt x r s pos := by
  unfold SIt; rw [hg.block r h.lt (fun e => h2 e.symm)]; exact h
theorem SIt.row {B' : Nat} {T : TypeId} {sz k : Nat} {v : Value} {xs : List Value} (h : SIt w r s pos) (hr : w.ownsRow B' T sz v k xs) : v.ownBlock ≠ some r := by
  intro e
  obtain ⟨_, h2⟩ := hr
  rcases h2 with h2 | ⟨g, cap, cur, hv, hg, hh, _⟩
  · rw [h2.1] at e; simp [Value.ownBlock] at e
  · rw [hv] at e
    simp only [Value.ownBlock, Option.some.injEq] at e
    subst e
    rw [show w.heap[g]? = _ from h] at hh; cases hh
theorem SIt.but {S : Nat → Prop} (h : SIt w r s pos) (hb : But S w x) (hn : ¬ S r) : SIt x r s pos := by
  unfold SIt; rw [hb.block r h.lt hn]; exact h
theorem op_rangeS (ho : o.op = .range t q) (hq : ev m q = some (.string s)) (ht : P.underlying t = some .string) :
    Op1 P n m o w (fun u x => ∃ r, u = .pointer (some ⟨r, 0, none⟩) ∧ r = w.heap.size ∧ SIt x r s 0 ∧ x.heap.size = r + 1 ∧ w.grownBy x none) := by
  intro ac ha N Q hN
  unfold Oper.wp execOp
  simp only [ho, ha.ev hq, Sem.run_bind, run_range_string w t s ht, Result.andThen_ok, Sem.run_pure]
  have hgr := World.grownBy_alloc w (.stringIter s 0) none
  refine hN _ _ ⟨w.heap.size, rfl, rfl, w.iter_heap s 0, ?_, hgr⟩
  show (w.heap.push _).size = _
  rw [Array.size_push]
theorem op_nextS (ho : o.op = .next q true) (hq : ev m q = some (.pointer (some ⟨r, 0, none⟩))) (h : SIt w r s pos) (ha : Ascii s) :
    Op1 P n m o w (fun u x => (s.size ≤ pos ∧ u = .tuple #[.bool false] ∧ w = x) ∨
      (pos < s.size ∧ u = .tuple #[.bool true, .int .i64 ((pos : Nat) : Int), .int .i32 (byteAt s pos)] ∧ SIt x r s (pos + 1) ∧ x.heap.size = w.heap.size ∧ w.grownBy x (some r))) := by
  intro ac hac N Q hN
  have hr : w.heap[r]? = some (.stringIter s pos) := h
  unfold Oper.wp execOp
  simp only [ho, hac.ev hq, Sem.run_bind]
  have hg : (getObj r).run P w = .ok (.stringIter s pos) w := by simp [getObj, Sem.run, hr]
  by_cases hp : pos < s.size
  · have hset := Go.MapKept.heap_set (o' := .stringIter s (pos + 1)) hr
    have hb : byteAt s pos = ((s[pos]'hp).toNat : Int) := by
      unfold byteAt
      have : s.data[pos]? = some (s[pos]'hp) := Array.getElem?_eq_getElem hp
      rw [this]; rfl
    have hrun : (Instr.next (.pointer (some ⟨r, 0, none⟩)) true o.type).run P w = .ok (.tuple #[.bool true, .int .i64 ((pos : Nat) : Int), .int .i32 (byteAt s pos)]) (setBlock w r (.stringIter s (pos + 1))) := by
      rw [hb]
      simp only [Instr.next, Sem.run_bind, hg, Result.andThen_ok, hp, if_true, decode_ascii s pos hp (ha pos hp)]
      simp [goInt, setObj, Sem.run, setBlock, hr]
    simp only [hrun, Result.andThen_ok, Sem.run_pure]
    have hgr : w.grownBy (setBlock w r (.stringIter s (pos + 1))) (some r) := ⟨rfl, rfl, rfl, by simp [setBlock], fun k _ hk => hset.2 k (fun e1 => hk (by rw [e1]))⟩
    exact hN _ _ (.inr ⟨hp, rfl, hset.1, by simp [setBlock], hgr⟩)
  · have hrun : (Instr.next (.pointer (some ⟨r, 0, none⟩)) true o.type).run P w = .ok (.tuple #[.bool false]) w := by
      simp only [Instr.next, Sem.run_bind, hg, Result.andThen_ok, hp, if_false]
      simp [Sem.run]
    simp only [hrun, Result.andThen_ok, Sem.run_pure]
    exact hN _ _ (.inl ⟨by omega, rfl, rfl⟩)
end
end Go.Proofs.YtcbagajjgbfgdaaGreat
