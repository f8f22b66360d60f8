/- Steps of a walk over known slots: slices cut, appended from, rows as lists, closures, structs compared. Conditions: none. -/
import Derived.Test.YtfjhlckklgeokaaPexB
import Derived.Test.YtfjhlckklgeokaaApp
namespace Go.Proofs.Ytfjhlckklgeokaa
open Go.RowKit

section
variable {P : Program} {n : Nat} {m : List (Nat × Value)} {w x : World} {o : Oper} {N : Nat} {T : TypeId} {cs : Array Value} {α : Type} {enc : α → List Value} {sz : Nat} {v : Value} {l : List α}

/-- A slice of a slice. -/
def subV (v : Value) (lo hi sz : Nat) : Value :=
  match v with
  | .slice ao _ cap => sliced ao lo hi cap sz
  | x => x
theorem sl_sub (h : SliceOf enc sz w v l) (lo hi : Nat) (h1 : lo ≤ hi) (h2 : hi ≤ l.length) : SliceOf enc sz w (subV v lo hi sz) ((l.take hi).drop lo) := by
  obtain ⟨ao, cap, rfl, h3, h4, h5, h6⟩ := h
  exact SliceOf.sliced ⟨ao, cap, rfl, h3, h4, h5, h6⟩ lo hi h1 h2
theorem sl_take (h : SliceOf enc sz w v l) (k : Nat) (h2 : k ≤ l.length) : SliceOf enc sz w (subV v 0 k sz) (l.take k) := sl_sub h 0 k (Nat.zero_le _) h2
theorem sl_drop (h : SliceOf enc sz w v l) (k : Nat) (h2 : k ≤ l.length) : SliceOf enc sz w (subV v k l.length sz) (l.drop k) := by
  have := sl_sub h k l.length h2 (Nat.le_refl _); rwa [List.take_length] at this
theorem rn_sliceTo {t e : TypeId} {q r : Operand} {k : IntKind} {i : Int} {j : Nat} (ho : o.op = .slice t q none (some r) none) (hq : ev m q = some v) (hr : ev m r = some (.int k i)) (ht : P.underlying t = some (.slice e)) (hs : ∀ w : World, (sizeOf e).run P w = .ok sz w)
    (h : SliceOf enc sz w v l) (hij : i = (j : Nat)) (hj : j ≤ l.length) : (execOp (lk m) o).run P w = .ok (.value (subV v 0 j sz)) w := by
  subst hij
  obtain ⟨ao, cap, rfl, h3, h4, h5, h6⟩ := h
  have he : P.elem t = e := by simp [Program.elem, ht]
  have hrun : (Instr.slice t (.slice ao l.length cap) none (some (.int k j)) none).run P w = .ok (sliced ao 0 j cap sz) w := by
    rw [run_slice_h w t ao l.length cap (by rw [he]; exact ht) k j (by omega) (by omega), he, hs]; rfl
  unfold execOp
  simp only [ho, Option.map_some, Option.map_none, lk_ev hq, lk_ev hr, Instr.sliceAt, Sem.run_bind, run_underlying ht, Result.andThen_ok, hrun, Sem.run_pure]
  rfl
theorem rn_sliceFrom {t e : TypeId} {q r : Operand} {k : IntKind} {i : Int} {j : Nat} (ho : o.op = .slice t q (some r) none none) (hq : ev m q = some v) (hr : ev m r = some (.int k i)) (ht : P.underlying t = some (.slice e)) (hs : ∀ w : World, (sizeOf e).run P w = .ok sz w)
    (h : SliceOf enc sz w v l) (hij : i = (j : Nat)) (hj : j ≤ l.length) : (execOp (lk m) o).run P w = .ok (.value (subV v j l.length sz)) w := by
  subst hij
  obtain ⟨ao, cap, rfl, h3, h4, h5, h6⟩ := h
  have he : P.elem t = e := by simp [Program.elem, ht]
  have hrun : (Instr.slice t (.slice ao l.length cap) (some (.int k j)) none none).run P w = .ok (sliced ao j l.length cap sz) w := by
    rw [run_slice_l w t ao l.length cap (by rw [he]; exact ht) k j (by omega) (by omega), he, hs]; rfl
  unfold execOp
  simp only [ho, Option.map_some, Option.map_none, lk_ev hq, lk_ev hr, Instr.sliceAt, Sem.run_bind, run_underlying ht, Result.andThen_ok, hrun, Sem.run_pure]
  rfl
theorem rn_sliceLH {t e : TypeId} {q r r' : Operand} {k k' : IntKind} {i i' : Int} {j j' : Nat} (ho : o.op = .slice t q (some r) (some r') none) (hq : ev m q = some v) (hr : ev m r = some (.int k i)) (hr' : ev m r' = some (.int k' i')) (ht : P.underlying t = some (.slice e)) (hs : ∀ w : World, (sizeOf e).run P w = .ok sz w)
    (h : SliceOf enc sz w v l) (hij : i = (j : Nat)) (hij' : i' = (j' : Nat)) (hj : j ≤ j') (hj' : j' ≤ l.length) : (execOp (lk m) o).run P w = .ok (.value (subV v j j' sz)) w := by
  subst hij hij'
  obtain ⟨ao, cap, rfl, h3, h4, h5, h6⟩ := h
  have he : P.elem t = e := by simp [Program.elem, ht]
  have hrun : (Instr.slice t (.slice ao l.length cap) (some (.int k j)) (some (.int k' j')) none).run P w = .ok (sliced ao j j' cap sz) w := by
    rw [run_slice_lh w t ao l.length cap (by rw [he]; exact ht) k k' j j' (by omega) (by omega) (by omega), he, hs]; rfl
  unfold execOp
  simp only [ho, Option.map_some, Option.map_none, lk_ev hq, lk_ev hr, lk_ev hr', Instr.sliceAt, Sem.run_bind, run_underlying ht, Result.andThen_ok, hrun, Sem.run_pure]
  rfl
/-- 'append(v, src..)', v a row of the call's own, src any slice that is read. -/
theorem op_appendSrc {s q : Operand} {t : TypeId} (ho : o.op = .call { callee := .builtin .append, args := #[s, q], argTypes := #[t, t] })
    (base : Nat) (e : TypeId) {z : Value} {size bytes : Nat} (ht : P.underlying t = some (.slice e)) (hi : (P.info? e).map (fun i => (i.zero, i.size, i.bytes)) = some (some z, size, bytes))
    (hzs : z.cells.size = size) (hsz : Nat.blt 0 size = true) {u : Value} {k : Nat} {xs : List Value} (hs : ev m s = some u) (hown : w.ownsRow base e size u k xs)
    (hx : ev m q = some v) (hsl : SliceOf enc size w v l) (hen : ∀ y ∈ l, (enc y).length = size ∧ ∀ u ∈ enc y, u.oneCell' = true)
    (h63 : k + l.length ≤ 9223372036854775807) (hbytes : (k + l.length) * bytes ≤ 140737488355328) (hbase : base ≤ w.heap.size) :
    Op1 P n m o w (fun r x => x.ownsRow base e size r (k + l.length) (xs ++ l.flatMap enc) ∧ w.grownBy x u.ownBlock) := by
  intro a ha K Q hN
  obtain ⟨i0, hii, hz0, hz1, hz2⟩ := info_parts hi
  exact wp_append_src s q t ho base e i0 z size bytes ht hii hz0 hz1 hz2 hzs (by simpa using hsz) u k xs (ha.ev hs) hown enc l v (ha.ev hx) hsl hen (by unfold maxLen; exact h63) hbytes hbase (fun v' w' h2 h3 => hN _ _ ⟨h2, h3⟩)
theorem row_of_blk {base : Nat} (h : Blk w N T #[]) (hb : base ≤ N) (sz : Nat) : w.ownsRow base T sz (.slice (some ⟨N, 0, none⟩) 0 0) 0 [] :=
  ⟨by simp, .inr ⟨N, 0, #[], rfl, hb, h, Nat.le_refl _, by decide, by simp, by simp⟩⟩
theorem row_of_blkL {base : Nat} (h : Blk w N T #[]) (hb : base ≤ N) (sz : Nat) (enc : α → List Value) : w.ownsRow base T sz (.slice (some ⟨N, 0, none⟩) 0 0) ([] : List α).length (([] : List α).flatMap enc) := row_of_blk h hb sz
theorem row_nilL (w : World) (base : Nat) (T : TypeId) (sz : Nat) (enc : α → List Value) : w.ownsRow base T sz (.slice none 0 0) ([] : List α).length (([] : List α).flatMap enc) := World.ownsRow_nil _ _ _ _
theorem row_push {base : Nat} {u : Value} {y : α} {k : Nat} {xs : List Value} (h : w.ownsRow base T sz u (l.length + k) (l.flatMap enc ++ xs)) (hk : k = 1) (he : enc y = xs) : w.ownsRow base T sz u (l ++ [y]).length ((l ++ [y]).flatMap enc) := by
  subst hk he; simpa using h
theorem row_app {base : Nat} {u : Value} {l' : List α} (h : w.ownsRow base T sz u (l.length + l'.length) (l.flatMap enc ++ l'.flatMap enc)) : w.ownsRow base T sz u (l ++ l').length ((l ++ l').flatMap enc) := by
  simpa using h
theorem row_lows {base base' : Nat} {u : Value} {k : Nat} {xs : List Value} (h : w.ownsRow base T sz u k xs) (hb : base' ≤ base) : w.ownsRow base' T sz u k xs := by
  refine ⟨h.1, ?_⟩
  rcases h.2 with h2 | ⟨g, c, r, e, hg, h3⟩
  · exact .inl h2
  · exact .inr ⟨g, c, r, e, by omega, h3⟩
theorem row_eq {base : Nat} {u : Value} {l' : List α} (h : w.ownsRow base T sz u l.length (l.flatMap enc)) (e : l = l') : w.ownsRow base T sz u l'.length (l'.flatMap enc) := by subst e; exact h
theorem row_sl {base : Nat} (h : w.ownsRow base T sz v l.length (l.flatMap enc)) (hsz : ∀ y : α, (enc y).length = sz) : SliceOf enc sz w v l := SliceOf.own h (fun y _ => hsz y)
theorem row_fresh {base : Nat} {k : Nat} {xs : List Value} (h : w.ownsRow base T sz v k xs) (hN : N = w.heap.size) : v.ownBlock ≠ some N := fun e => by have := (h.lt N e).2; omega
theorem range_below {b o' : Nat} {cs : List Value} (h : w.rangeAt b o' cs) (hb : Below w.heap.size w x) : x.rangeAt b o' cs := fun j u hu => cell_below hb (h j u hu)
/-- A store of one cell into a row of the call's own. -/
theorem op_storeRow {t : TypeId} {p q : Operand} {base : Nat} {k c : Nat} {xs : List Value} {u : Value} {off : Nat} (ho : o.op = .store t p q) (hp : ev m p = some (.pointer (some ⟨blkOf v, off, none⟩))) (hq : ev m q = some u) (h1 : u.oneCell' = true) (hs : ∀ w : World, (sizeOf t).run P w = .ok 1 w)
    (hrow : w.ownsRow base T sz v k xs) (hc : c < xs.length) (hoff : off = offOf v + c) : Op1 P n m o w (fun _ x => x.ownsRow base T sz v k (xs.set c u) ∧ x.heap.size = w.heap.size ∧ w.grownBy x v.ownBlock) := by
  subst hoff
  rcases hrow.2 with ⟨rfl, rfl⟩ | ⟨g, cap, cur, rfl, hg, hh, hnc, hcm, hcs, htk⟩
  · have h9 := hrow.1; rw [Nat.zero_mul] at h9; omega
  · have hlen := hrow.1
    have hcc : c < cur.size := by
      rw [hcs]; have := Nat.mul_le_mul_right sz hnc; omega
    have hb : Blk w g T cur := hh
    refine (op_store1 (N := g) (k := c) ho (by simpa [blkOf, offOf] using hp) hq h1 hs hb (by simpa using hcc)).mono ?_
    rintro _ x ⟨h3, h4, h5⟩
    refine ⟨⟨by simpa using hlen, .inr ⟨g, cap, _, rfl, hg, h3, hnc, hcm, by simpa using hcs, ?_⟩⟩, h4, by simpa [Value.ownBlock] using h5⟩
    rw [Array.toList_setIfInBounds, List.take_set, htk]
theorem flat_set {k : Nat} {u : Value} : ∀ (l : List α) (j : Nat) (y y' : α), (∀ z, (enc z).length = sz) → l[j]? = some y → k < sz → enc y' = (enc y).set k u → (l.flatMap enc).set (j * sz + k) u = (l.set j y').flatMap enc
  | [], j, y, y', _, h, _, _ => by simp at h
  | z :: r, 0, y, y', hz, h, hk, he => by
    simp at h; subst h
    simp only [List.set_cons_zero, List.flatMap_cons, Nat.zero_mul, Nat.zero_add]
    rw [List.set_append_left _ _ (by rw [hz]; exact hk), he]
  | z :: r, j + 1, y, y', hz, h, hk, he => by
    simp only [List.getElem?_cons_succ] at h
    simp only [List.set_cons_succ, List.flatMap_cons]
    rw [List.set_append_right _ _ (by rw [hz, Nat.add_mul]; omega), hz, show (j + 1) * sz + k - sz = j * sz + k by rw [Nat.add_mul]; omega, flat_set r j y y' hz h hk he]
theorem row_set {base : Nat} {j k : Nat} {y y' : α} {u u' : Value} (h : w.ownsRow base T sz u l.length ((l.flatMap enc).set (j * sz + k) u')) (hz : ∀ z, (enc z).length = sz) (hy : l[j]? = some y) (hk : k < sz) (he : enc y' = (enc y).set k u') : w.ownsRow base T sz u (l.set j y').length ((l.set j y').flatMap enc) := by
  rw [← flat_set l j y y' hz hy hk he]; simpa using h
theorem flat_lt {j k : Nat} (hz : ∀ z, (enc z).length = sz) (hj : j < l.length) (hk : k < sz) : j * sz + k < (l.flatMap enc).length := by
  rw [flat_len l (fun y _ => hz y)]
  have := Nat.mul_le_mul_right sz (show j + 1 ≤ l.length from hj)
  rw [Nat.add_mul] at this; omega
/-- A call of a function value that has captured variables. -/
theorem op_callV {c : Call} {q : Operand} {f : FuncId} {args caps : Array Value} {E : Ending → World → Prop} {R : Value → World → Prop} (ho : o.op = .call c) (hc : c.callee = .value q) (hf : ev m q = some (.func (.func f) #[] caps))
    (hok : okOps m o.op = true) (hargs : c.args.map (lk m) ++ caps = args) (hcall : (callFunc f args).run P w = .ok (.enter f args) w) (h : Calls P f args w E) (hE : ∀ e w', E e w' → ∃ v, e = .returned v ∧ R v w') : Op1 P n m o w R := by
  intro a ha K Q hN
  have he : execOp a.eval o = execOp (lk m) o := execOp_congr o (fun cs b e => by simp [e] at ho) (fun x hx => ha.lk (Array.all_eq_true_iff_forall_mem.1 hok x hx))
  unfold Oper.wp
  rw [he]
  have hfx : lk m q = .func (.func f) #[] caps := by simp [lk, hf]
  have : (execOp (lk m) o).run P w = .ok (.enter f args) w := by
    simp only [execOp, ho, resolve, hc, hfx, Deferred.ofValue, Sem.run_bind, Sem.run_pure, Result.andThen_ok, invoke]
    simp only [Array.empty_append, hargs]
    exact hcall
  rw [this, Oper.upon_enter]
  refine h.mono fun e w' he => ?_
  obtain ⟨v, rfl, hv⟩ := hE e w' he
  exact hN v w' hv
/-- Structs compared. -/
theorem rn_eqS {T T' : TypeId} {q r : Operand} {a b : Array Value} {c : Bool} (ho : o.op = .binOp .eql T q r T') (hq : ev m q = some (.agg a)) (hr : ev m r = some (.agg b)) (hg : P.eqGuardType P.depth T = false) (h : (binOp .eql T (.agg a) (.agg b)).run P w = .ok (.bool c) w) : (execOp (lk m) o).run P w = .ok (.value (.bool c)) w := by
  unfold execOp
  have h0 : (eqGuard .eql T q r (.agg a) (.agg b)).run P w = .ok () w := by
    simp [eqGuard, Sem.run_bind, run_program, hg]
  simp only [ho, lk_ev hq, lk_ev hr, Sem.run_bind, h0, h, Result.andThen_ok, Sem.run_pure]
theorem rn_neS {T T' : TypeId} {q r : Operand} {a b : Array Value} {c : Bool} (ho : o.op = .binOp .neq T q r T') (hq : ev m q = some (.agg a)) (hr : ev m r = some (.agg b)) (hg : P.eqGuardType P.depth T = false) (h : (binOp .eql T (.agg a) (.agg b)).run P w = .ok (.bool c) w) : (execOp (lk m) o).run P w = .ok (.value (.bool !c)) w := by
  unfold execOp
  have h0 : (eqGuard .neq T q r (.agg a) (.agg b)).run P w = .ok () w := by
    simp [eqGuard, Sem.run_bind, run_program, hg]
  have h1 : (binOp .neq T (.agg a) (.agg b)).run P w = .ok (.bool !c) w := by
    have h2 : (Op.equal T (.agg a) (.agg b)).run P w = .ok c w := by
      cases h3 : (Op.equal T (.agg a) (.agg b)).run P w with
      | ok y w1 =>
        simp only [binOp, Sem.run_bind, h3, Result.andThen_ok, Sem.run_pure, Result.ok.injEq, Value.bool.injEq] at h
        rw [h.1, h.2]
      | halt y w1 => simp [binOp, Sem.run_bind, h3] at h
    simp only [binOp, Sem.run_bind, h2, Result.andThen_ok, Sem.run_pure]
  simp only [ho, lk_ev hq, lk_ev hr, Sem.run_bind, h0, h1, Result.andThen_ok, Sem.run_pure]
theorem rn_rem {T T' : TypeId} {q r : Operand} {k : IntKind} {i j : Int} (ho : o.op = .binOp .rem T q r T') (hq : ev m q = some (.int k i)) (hr : ev m r = some (.int k j)) (hi : 0 ≤ i) (hj : 0 < j) : (execOp (lk m) o).run P w = .ok (.value (.int k (i % j))) w := by
  unfold execOp
  have hne : ¬ j = 0 := by omega
  have he : i.tmod j = i % j := Int.tmod_eq_emod_of_nonneg hi
  simp only [ho, lk_ev hq, lk_ev hr]
  simp [eqGuard, binOp, Op.intDiv, hne, he]
theorem rn_quo {T T' : TypeId} {q r : Operand} {k : IntKind} {i j : Int} (ho : o.op = .binOp .quo T q r T') (hq : ev m q = some (.int k i)) (hr : ev m r = some (.int k j)) (hi : 0 ≤ i) (hj : 0 < j) (hz : k.wrap (i / j) = i / j) : (execOp (lk m) o).run P w = .ok (.value (.int k (i / j))) w := by
  unfold execOp
  have hne : ¬ j = 0 := by omega
  have he : i.tdiv j = i / j := Int.tdiv_eq_ediv_of_nonneg hi
  simp only [ho, lk_ev hq, lk_ev hr]
  simp [eqGuard, binOp, Op.intDiv, hne, he, hz]
/-- A struct and a slot as results. -/
theorem co_retC1 {Q : Exit → Act → World → Prop} {a : Act} {fn : Func} {E : Ending → World → Prop} {t u : Nat} {T' : TypeId} {y : Value} {d : TypeDesc} (hs : Slots n m a) (hr : fn.results = #[.cell t T', .tmp u]) (ht : m.lookup t = some (.pointer (some ⟨N, 0, none⟩))) (hu : m.lookup u = some y) (hb : Blk w N T cs)
    (hd : P.underlying T' = some d) (hrow : d.isRow = true) (hi : (P.info? T').map (·.size) = some cs.size) (h : E (.returned (.tuple #[.agg cs, y])) w) : bodyPost P fn E .ret a w := by
  have h1 := hs.look t _ ht
  have h2 := hs.look u _ hu
  have hl := run_loadVar_mid w N 0 T' cs.toList d hb.all hd hrow (by simpa using hi)
  have hrun : (results fn a.tmps).run P w = .ok (.tuple #[.agg cs, y]) w := by
    have h1' : (a.tmps[t]?).getD undef = .pointer (some ⟨N, 0, none⟩) := by rw [← h1, Array.getD_eq_getD_getElem?]
    have h2' : (a.tmps[u]?).getD undef = y := by rw [← h2, Array.getD_eq_getD_getElem?]
    simp [results, hr, h1', h2', asAddr, hl, Sem.run_bind]
  exact bodyPost_ret hrun hs.defers h
/-- A struct as the result. -/
theorem co_retC {Q : Exit → Act → World → Prop} {a : Act} {fn : Func} {E : Ending → World → Prop} {t : Nat} {T' : TypeId} {d : TypeDesc} (hs : Slots n m a) (hr : fn.results = #[.cell t T']) (ht : m.lookup t = some (.pointer (some ⟨N, 0, none⟩))) (hb : Blk w N T cs)
    (hd : P.underlying T' = some d) (hrow : d.isRow = true) (hi : (P.info? T').map (·.size) = some cs.size) (h : E (.returned (.agg cs)) w) : bodyPost P fn E .ret a w := by
  have h1 := hs.look t _ ht
  have hl := run_loadVar_mid w N 0 T' cs.toList d hb.all hd hrow (by simpa using hi)
  have hrun : (results fn a.tmps).run P w = .ok (.agg cs) w := by
    have h1' : (a.tmps[t]?).getD undef = .pointer (some ⟨N, 0, none⟩) := by rw [← h1, Array.getD_eq_getD_getElem?]
    simp [results, hr, h1', asAddr, hl, Sem.run_bind]
  exact bodyPost_ret hrun hs.defers h
end
end Go.Proofs.Ytfjhlckklgeokaa
