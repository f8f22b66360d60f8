/- Steps of a walk over known slots: slices cut, appended from, rows as lists, closures, structs compared. Conditions: none. -/
import Derived.Test.YtlbemlodcdgakaaPexBSh
import Derived.Test.YtlbemlodcdgakaaAppSh
namespace Go.Proofs.Ytlbemlodcdgakaa
open Go.RowKit

section
variable {P : Program} {n : Nat} {m : List (Nat × Value)} {w x : World} {o : Oper} {N : Nat} {T : TypeId} {cs : Array Value} {α : Type} {enc : α → List Value} {sz : Nat} {v : Value} {l : List α}

/-- A slice of a slice. -/
def subV (v : Value) (lo hi sz : Nat) : Value :=
  match v with
  | .slice ao _ cap => sliced ao lo hi cap sz
  | x => x
theorem sl_sub (h : SliceOf enc sz w v l) (lo hi : Nat) (h1 : lo ≤ hi) (h2 : hi ≤ l.length) : SliceOf enc sz w (subV v lo hi sz) ((l.take hi).drop lo) := by
  obtain ⟨ao, cap, rfl, h3, h4, h5, h6⟩ := h
  exact SliceOf.sliced ⟨ao, cap, rfl, h3, h4, h5, h6⟩ lo hi h1 h2
theorem sl_take (h : SliceOf enc sz w v l) (k : Nat) (h2 : k ≤ l.length) : SliceOf enc sz w (subV v 0 k sz) (l.take k) := sl_sub h 0 k (Nat.zero_le _) h2
theorem sl_drop (h : SliceOf enc sz w v l) (k : Nat) (h2 : k ≤ l.length) : SliceOf enc sz w (subV v k l.length sz) (l.drop k) := by
  have := sl_sub h k l.length h2 (Nat.le_refl _); rwa [List.take_length] at this
theorem rn_sliceTo {t e : TypeId} {q r : Operand} {k : IntKind} {i : Int} {j : Nat} (ho : o.op = .slice t q none (some r) none) (hq : ev m q = some v) (hr : ev m r = some (.int k i)) (ht : P.underlying t = some (.slice e)) (hs : ∀ w : World, (sizeOf e).run P w = .ok sz w)
    (h : SliceOf enc sz w v l) (hij : i = (j : Nat)) (hj : j ≤ l.length) : (execOp (lk m) o).run P w = .ok (.value (subV v 0 j sz)) w := by
  subst hij
  obtain ⟨ao, cap, rfl, h3, h4, h5, h6⟩ := h
  have he : P.elem t = e := by simp [Program.elem, ht]
  have hrun : (Instr.slice t (.slice ao l.length cap) none (some (.int k j)) none).run P w = .ok (sliced ao 0 j cap sz) w := by
    rw [run_slice_h w t ao l.length cap (by rw [he]; exact ht) k j (by omega) (by omega), he, hs]; rfl
  unfold execOp
  simp only [ho, Option.map_some, Option.map_none, lk_ev hq, lk_ev hr, Instr.sliceAt, Sem.run_bind, run_underlying ht, Result.andThen_ok, hrun, Sem.run_pure]
  rfl
theorem rn_sliceFrom {t e : TypeId} {q r : Operand} {k : IntKind} {i : Int} {j : Nat} (ho : o.op = .slice t q (some r) none none) (hq : ev m q = some v) (hr : ev m r = some (.int k i)) (ht : P.underlying t = some (.slice e)) (hs : ∀ w : World, (sizeOf e).run P w = .ok sz w)
    (h : SliceOf enc sz w v l) (hij : i = (j : Nat)) (hj : j ≤ l.length) : (execOp (lk m) o).run P w = .ok (.value (subV v j l.length sz)) w := by
  subst hij
  obtain ⟨ao, cap, rfl, h3, h4, h5, h6⟩ := h
  have he : P.elem t = e := by simp [Program.elem, ht]
  have hrun : (Instr.slice t (.slice ao l.length cap) (some (.int k j)) none none).run P w = .ok (sliced ao j l.length cap sz) w := by
    rw [run_slice_l w t ao l.length cap (by rw [he]; exact ht) k j (by omega) (by omega), he, hs]; rfl
  unfold execOp
  simp only [ho, Option.map_some, Option.map_none, lk_ev hq, lk_ev hr, Instr.sliceAt, Sem.run_bind, run_underlying ht, Result.andThen_ok, hrun, Sem.run_pure]
  rfl
/-- 'append(v, src..)', v a row of the call's own, src any slice that is read. -/
theorem op_appendSrc {s q : Operand} {t : TypeId} (ho : o.op = .call { callee := .builtin .append, args := #[s, q], argTypes := #[t, t] })
    (base : Nat) (e : TypeId) {z : Value} {size bytes : Nat} (ht : P.underlying t = some (.slice e)) (hi : (P.info? e).map (fun i => (i.zero, i.size, i.bytes)) = some (some z, size, bytes))
    (hzs : z.cells.size = size) (hsz : Nat.blt 0 size = true) {u : Value} {k : Nat} {xs : List Value} (hs : ev m s = some u) (hown : w.ownsRow base e size u k xs)
    (hx : ev m q = some v) (hsl : SliceOf enc size w v l) (hen : ∀ y ∈ l, (enc y).length = size ∧ ∀ u ∈ enc y, u.oneCell' = true)
    (h63 : k + l.length ≤ 9223372036854775807) (hbytes : (k + l.length) * bytes ≤ 140737488355328) (hbase : base ≤ w.heap.size) :
    Op1 P n m o w (fun r x => x.ownsRow base e size r (k + l.length) (xs ++ l.flatMap enc) ∧ w.grownBy x u.ownBlock) := by
  intro a ha K Q hN
  obtain ⟨i0, hii, hz0, hz1, hz2⟩ := info_parts hi
  exact wp_append_src s q t ho base e i0 z size bytes ht hii hz0 hz1 hz2 hzs (by simpa using hsz) u k xs (ha.ev hs) hown enc l v (ha.ev hx) hsl hen (by unfold maxLen; exact h63) hbytes hbase (fun v' w' h2 h3 => hN _ _ ⟨h2, h3⟩)
theorem row_of_blk {base : Nat} (h : Blk w N T #[]) (hb : base ≤ N) (sz : Nat) : w.ownsRow base T sz (.slice (some ⟨N, 0, none⟩) 0 0) 0 [] :=
  ⟨by simp, .inr ⟨N, 0, #[], rfl, hb, h, Nat.le_refl _, by decide, by simp, by simp⟩⟩
theorem row_of_blkL {base : Nat} (h : Blk w N T #[]) (hb : base ≤ N) (sz : Nat) (enc : α → List Value) : w.ownsRow base T sz (.slice (some ⟨N, 0, none⟩) 0 0) ([] : List α).length (([] : List α).flatMap enc) := row_of_blk h hb sz
theorem row_nilL (w : World) (base : Nat) (T : TypeId) (sz : Nat) (enc : α → List Value) : w.ownsRow base T sz (.slice none 0 0) ([] : List α).length (([] : List α).flatMap enc) := World.ownsRow_nil _ _ _ _
theorem row_push {base : Nat} {u : Value} {y : α} {k : Nat} {xs : List Value} (h : w.ownsRow base T sz u (l.length + k) (l.flatMap enc ++ xs)) (hk : k = 1) (he : enc y = xs) : w.ownsRow base T sz u (l ++ [y]).length ((l ++ [y]).flatMap enc) := by
  subst hk he; simpa using h
theorem row_app {base : Nat} {u : Value} {l' : List α} (h : w.ownsRow base T sz u (l.length + l'.length) (l.flatMap enc ++ l'.flatMap enc)) : w.ownsRow base T sz u (l ++ l').length ((l ++ l').flatMap enc) := by
  simpa using h
theorem row_lows {base base' : Nat} {u : Value} {k : Nat} {xs : List Value} (h : w.ownsRow base T sz u k xs) (hb : base' ≤ base) : w.ownsRow base' T sz u k xs := by
  refine ⟨h.1, ?_⟩
  rcases h.2 with h2 | ⟨g, c, r, e, hg, h3⟩
  · exact .inl h2
  · exact .inr ⟨g, c, r, e, by omega, h3⟩
theorem row_eq {base : Nat} {u : Value} {l' : List α} (h : w.ownsRow base T sz u l.length (l.flatMap enc)) (e : l = l') : w.ownsRow base T sz u l'.length (l'.flatMap enc) := by subst e; exact h
theorem row_sl {base : Nat} (h : w.ownsRow base T sz v l.length (l.flatMap enc)) (hsz : ∀ y : α, (enc y).length = sz) : SliceOf enc sz w v l := SliceOf.own h (fun y _ => hsz y)
theorem row_fresh {base : Nat} {k : Nat} {xs : List Value} (h : w.ownsRow base T sz v k xs) (hN : N = w.heap.size) : v.ownBlock ≠ some N := fun e => by have := (h.lt N e).2; omega
/-- A call of a function value that has captured variables. -/
theorem op_callV {c : Call} {q : Operand} {f : FuncId} {args caps : Array Value} {E : Ending → World → Prop} {R : Value → World → Prop} (ho : o.op = .call c) (hc : c.callee = .value q) (hf : ev m q = some (.func (.func f) #[] caps))
    (hok : okOps m o.op = true) (hargs : c.args.map (lk m) ++ caps = args) (hcall : (callFunc f args).run P w = .ok (.enter f args) w) (h : Calls P f args w E) (hE : ∀ e w', E e w' → ∃ v, e = .returned v ∧ R v w') : Op1 P n m o w R := by
  intro a ha K Q hN
  have he : execOp a.eval o = execOp (lk m) o := execOp_congr o (fun cs b e => by simp [e] at ho) (fun x hx => ha.lk (Array.all_eq_true_iff_forall_mem.1 hok x hx))
  unfold Oper.wp
  rw [he]
  have hfx : lk m q = .func (.func f) #[] caps := by simp [lk, hf]
  have : (execOp (lk m) o).run P w = .ok (.enter f args) w := by
    simp only [execOp, ho, resolve, hc, hfx, Deferred.ofValue, Sem.run_bind, Sem.run_pure, Result.andThen_ok, invoke]
    simp only [Array.empty_append, hargs]
    exact hcall
  rw [this, Oper.upon_enter]
  refine h.mono fun e w' he => ?_
  obtain ⟨v, rfl, hv⟩ := hE e w' he
  exact hN v w' hv
/-- A struct as the result. -/
theorem co_retC {Q : Exit → Act → World → Prop} {a : Act} {fn : Func} {E : Ending → World → Prop} {t : Nat} {T' : TypeId} {d : TypeDesc} (hs : Slots n m a) (hr : fn.results = #[.cell t T']) (ht : m.lookup t = some (.pointer (some ⟨N, 0, none⟩))) (hb : Blk w N T cs)
    (hd : P.underlying T' = some d) (hrow : d.isRow = true) (hi : (P.info? T').map (·.size) = some cs.size) (h : E (.returned (.agg cs)) w) : bodyPost P fn E .ret a w := by
  have h1 := hs.look t _ ht
  have hl := run_loadVar_mid w N 0 T' cs.toList d hb.all hd hrow (by simpa using hi)
  have hrun : (results fn a.tmps).run P w = .ok (.agg cs) w := by
    have h1' : (a.tmps[t]?).getD undef = .pointer (some ⟨N, 0, none⟩) := by rw [← h1, Array.getD_eq_getD_getElem?]
    simp [results, hr, h1', asAddr, hl, Sem.run_bind]
  exact bodyPost_ret hrun hs.defers h
end
end Go.Proofs.Ytlbemlodcdgakaa
