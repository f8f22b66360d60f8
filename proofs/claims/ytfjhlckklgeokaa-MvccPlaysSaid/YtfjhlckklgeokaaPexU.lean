/- Steps of a walk over an object's own parts: effects upon a set of blocks, appends that tell where the row went, bytes, maps looked up, rows and maps cleared. Conditions: none. -/
import Derived.Test.YtfjhlckklgeokaaPexT
import Derived.Test.YtfjhlckklgeokaaMapO
import Derived.Test.YtfjhlckklgeokaaAppStr
import Derived.Laws.BytesArg
namespace Go.Proofs.Ytfjhlckklgeokaa
open Go.RowKit

section
variable {P : Program} {n : Nat} {m : List (Nat × Value)} {w x w0 : World} {o : Oper} {N : Nat} {T : TypeId} {cs : Array Value} {S : Nat → Prop} {v u : Value} {k : Nat}
theorem grown_butU {row : Option Nat} (hg : w.grownBy x row) : But (fun k => row = some k) w x := ⟨hg.os, hg.tape, hg.output, hg.size, fun k hk hn => hg.block k hk (fun e => hn e.symm)⟩
theorem fbU_new (h : But S w0 w) (hg : w.grownBy x none) : But S w0 x := h.trans (But.of_below (grown_below hg))
theorem fbU_call (h : But S w0 w) (hb : Below w.heap.size w x) : But S w0 x := h.trans (But.of_below hb)
theorem fbU_at (h : But S w0 w) (hg : w.grownBy x (some N)) (hN : N < w0.heap.size → S N) : But S w0 x :=
  h.trans' (S' := fun k => some N = some k) (grown_butU hg) (fun i hi e => by cases e; exact hN hi)
/-- Where a row lies: in S, or it was made since a world of n blocks. -/
def InS (S : Nat → Prop) (n : Nat) (v : Value) : Prop := ∀ k, v.ownBlock = some k → S k ∨ n ≤ k
theorem fbU_row (h : But S w0 w) (hi : InS S w0.heap.size v) (hg : w.grownBy x v.ownBlock) : But S w0 x :=
  h.trans' (S' := fun k => v.ownBlock = some k) (grown_butU hg) (fun i hi' e => by
    rcases hi i e with h1 | h1
    · exact h1
    · omega)
theorem fbU_foot {S' : Nat → Prop} (h : But S w0 w) (hb : But S' w x) (hs : ∀ i, i < w0.heap.size → S' i → S i) : But S w0 x := h.trans' hb hs
theorem row_under {B sz q : Nat} {e : TypeId} {xs : List Value} (h : w.ownsRow B e sz v q xs) (hN : N = w.heap.size) : ∀ i, v.ownBlock = some i → i < N := fun i hi => by have := (h.lt i hi).2; omega
theorem row_kept_ap {w x : World} {B B' : Nat} {e e' : TypeId} {sz sz' k k' : Nat} {v v' : Value} {xs ys : List Value} (h : w.ownsRow B e sz v k xs) (h' : w.ownsRow B' e' sz' v' k' ys) (hu : ∀ i, v.ownBlock = some i → i < B') (hg : w.grownBy x v'.ownBlock) : x.ownsRow B e sz v k xs := by
  refine h.kept hg ?_
  cases hv : v.ownBlock with
  | none => exact .inl rfl
  | some i =>
    refine .inr (fun e1 => ?_)
    have h1 := (h'.lt i e1.symm).1
    have h2 := hu i hv
    omega
/-- The row stayed in its block, or went into a new one. -/
def Went (w : World) (v u : Value) : Prop := u.ownBlock = v.ownBlock ∨ ∀ k, u.ownBlock = some k → w.heap.size ≤ k
theorem InS.went (h : InS S k v) (hf : Went w v u) (hn : k ≤ w.heap.size) : InS S k u := fun i hi => by
  rcases hf with e | e
  · exact h i (e ▸ hi)
  · exact .inr (Nat.le_trans hn (e i hi))
theorem InS.nil : InS S k (.slice none 0 0) := fun i hi => by simp [Value.ownBlock] at hi
theorem InS.of (h : ∀ i, v.ownBlock = some i → S i) : InS S k v := fun i hi => .inl (h i hi)
theorem InS.low {B : Nat} {e : TypeId} {sz q : Nat} {xs : List Value} (h : w.ownsRow B e sz v q xs) (hB : k ≤ B) : InS S k v := fun i hi => .inr (Nat.le_trans hB (h.lt i hi).1)
/-- What S grows to. -/
def grow' (S : Nat → Prop) (a b : Nat) : Nat → Prop := fun q => S q ∨ (a ≤ q ∧ q < b)
theorem InS.fin {e : TypeId} {sz q B : Nat} {xs : List Value} (h : InS S k v) (hr : w.ownsRow B e sz v q xs) : ∀ i, v.ownBlock = some i → grow' S k w.heap.size i := fun i hi => by
  rcases h i hi with h1 | h1
  · exact .inl h1
  · exact .inr ⟨h1, (hr.lt i hi).2⟩

theorem run_append_went {P : Program} (w : World) (base : Nat) (t ty e : TypeId) (i : TypeInfo) (z : Value) (size bytes : Nat) (ht : P.underlying t = some (.slice e)) (hi : P.info? e = some i) (hz : i.zero = some z)
    (hsize : i.size = size) (hby : i.bytes = bytes) (hzs : z.cells.size = size) (hsz : 0 < size) (v : Value) (n : Nat) (xs : List Value) (hown : w.ownsRow base e size v n xs)
    (a : Addr) (m c : Nat) (news : List Value) (hl : news.length = m * size) (hnews : ∀ j u, news[j]? = some u → w.cell? (a.add j) = some u) (h1 : ∀ u ∈ news, u.oneCell' = true)
    (h63 : n + m ≤ maxLen) (hbytes : (n + m) * bytes ≤ 140737488355328) (hbase : base ≤ w.heap.size) :
    ∃ v' w', (Builtin.append_ #[t, t] ty #[v, .slice (some a) m c]).run P w = .ok v' w' ∧ w'.ownsRow base e size v' (n + m) (xs ++ news) ∧ w.grownBy w' v.ownBlock ∧ Went w v v' := by
  have hsmall : n + m ≤ 9223372036854775807 := by simp only [maxLen] at h63; omega
  rcases hown.2 with ⟨rfl, rfl⟩ | ⟨g, cap, cur, rfl, hbg, hg, hnc, hcm, hcs, htake⟩
  · have h0 : w.ownsRow w.heap.size e size (.slice none 0 0) 0 xs := ⟨hown.1, Or.inl ⟨rfl, rfl⟩⟩
    obtain ⟨v', w', hr, h2, h3, _⟩ := run_append_own (P := P) w w.heap.size t ty e i z size bytes ht hi hz hsize hby hzs hsz _ 0 xs h0 a m c news hl hnews h1 h63 hbytes (Nat.le_refl _)
    exact ⟨v', w', hr, row_low h2 hbase, h3, Or.inr (fun k hk => (h2.lt k hk).1)⟩
  · obtain ⟨v', w', hr, h2, h3, _⟩ := run_append_own (P := P) w base t ty e i z size bytes ht hi hz hsize hby hzs hsz _ n xs hown a m c news hl hnews h1 h63 hbytes hbase
    refine ⟨v', w', hr, h2, h3, ?_⟩
    by_cases hroom : n + m ≤ cap
    · have hfit : n * i.size + news.length ≤ cur.size := by
        rw [hl, hcs, hsize, ← Nat.add_mul]; exact Nat.mul_le_mul_right _ hroom
      have hr2 := run_append_room (P := P) w t ty e i ht hi g n cap cur hg a m c news (by rw [hsize]; exact hl) hnews h1 hroom hfit
      rw [hr] at hr2
      simp only [Result.ok.injEq] at hr2
      rw [hr2.1]
      exact Or.inl rfl
    · have holds : ∀ j u, xs[j]? = some u → w.cell? ((⟨g, 0, none⟩ : Addr).add j) = some u := hown.cells (g := g) rfl
      have hr2 := run_append_grow (P := P) w t ty e i z ht hi hz ⟨g, 0, none⟩ n cap xs (by rw [hsize]; exact hown.1) holds a m c news (by rw [hsize]; exact hl) hnews (by omega) (by omega) (by rw [hby]; exact growslice_fits (by omega) hbytes)
      rw [hr] at hr2
      simp only [Result.ok.injEq] at hr2
      rw [hr2.1]
      exact Or.inr (fun k hk => by simp [Value.ownBlock] at hk; omega)
theorem op_appendF {s q : Operand} {t : TypeId} (ho : o.op = .call { callee := .builtin .append, args := #[s, q], argTypes := #[t, t] })
    (base : Nat) (e : TypeId) {z : Value} {size bytes : Nat} (ht : P.underlying t = some (.slice e)) (hi : (P.info? e).map (fun i => (i.zero, i.size, i.bytes)) = some (some z, size, bytes))
    (hzs : z.cells.size = size) (hsz : Nat.blt 0 size = true) {k : Nat} {xs : List Value} (hs : ev m s = some v) (hown : w.ownsRow base e size v k xs)
    {M q' c : Nat} {ws : Array Value} {T' : TypeId} (hx : ev m q = some (.slice (some ⟨M, 0, none⟩) q' c)) (hb : Blk w M T' ws) (hl : ws.size = q' * size) (h1 : ws.all (·.oneCell') = true)
    (h63 : k + q' ≤ 9223372036854775807) (hbytes : (k + q') * bytes ≤ 140737488355328) (hbase : base ≤ w.heap.size) :
    Op1 P n m o w (fun u x => x.ownsRow base e size u (k + q') (xs ++ ws.toList) ∧ Went w v u ∧ w.grownBy x v.ownBlock) := by
  intro a ha K Q hN
  obtain ⟨i0, hii, hz0, hz1, hz2⟩ := info_parts hi
  obtain ⟨v', w', hr, h2, h3, h4⟩ := run_append_went (P := P) w base t o.type e i0 z size bytes ht hii hz0 hz1 hz2 hzs (by simpa using hsz) v k xs hown ⟨M, 0, none⟩ q' c ws.toList (by simpa using hl)
    (fun j u hu => by rw [Addr.add_lit, Nat.zero_add]; exact hb.cell (by simpa using hu)) (fun u hu => (Array.all_eq_true_iff_forall_mem.1 h1) u (by simpa using hu)) (by unfold maxLen; exact h63) hbytes hbase
  unfold Oper.wp execOp
  simp only [ho, resolve, invoke, builtin, Sem.run_bind, Sem.run_pure, Result.andThen_ok, List.map_toArray, List.map_cons, List.map_nil, ha.ev hs, ha.ev hx, hr]
  exact hN _ _ ⟨h2, h4, h3⟩
theorem strOfNums_bytesU (l : List UInt8) : strOfNums (l.map fun b => ((b.toNat : Nat) : Int)) = ⟨l.toArray⟩ := by
  apply ByteArray.ext
  apply Array.toList_inj.1
  rw [strOfNums_data, List.map_map]
  show _ = l
  have : ((fun n : Int => UInt8.ofNat n.toNat) ∘ fun b : UInt8 => ((b.toNat : Nat) : Int)) = id := by
    funext b
    simp
  rw [this, List.map_id]
/-- Bytes. -/
def u8E (b : UInt8) : List Value := [.int .u8 ((b.toNat : Nat) : Int)]
theorem u8E_len (b : UInt8) : (u8E b).length = 1 := rfl
theorem u8E_one (b : UInt8) : ∀ u ∈ u8E b, u.oneCell' = true := by intro u hu; simp [u8E] at hu; subst hu; rfl
theorem flat_u8 : ∀ l : List UInt8, l.flatMap u8E = l.map fun b => Value.int .u8 ((b.toNat : Nat) : Int)
  | [] => rfl
  | b :: r => by rw [List.flatMap_cons, List.map_cons, flat_u8 r]; rfl
theorem strCells_flat (s : ByteArray) : Lib.strCells s = s.data.toList.flatMap u8E := by rw [flat_u8]; rfl
theorem op_appendStrF {sl q : Operand} {t t' : TypeId} (ho : o.op = .call { callee := .builtin .append, args := #[sl, q], argTypes := #[t, t'] })
    (base : Nat) (e : TypeId) (ht : P.underlying t = some (.slice e)) (hu : P.underlying t' = some .string) (hi : (P.info? e).map (fun i => (i.zero, i.size, i.bytes)) = some (some (.int .u8 0), 1, 1))
    {l : List UInt8} (hs : ev m sl = some v) (hown : w.ownsRow base e 1 v l.length (l.flatMap u8E)) {s : ByteArray} (hx : ev m q = some (.string s))
    (h63 : l.length + s.size ≤ 140737488355328) (hbase : base ≤ w.heap.size) :
    Op1 P n m o w (fun u x => x.ownsRow base e 1 u (l ++ s.data.toList).length ((l ++ s.data.toList).flatMap u8E) ∧ Went w v u ∧ w.grownBy x v.ownBlock) := by
  intro a ha K Q hN
  obtain ⟨i0, hii, hz0, hz1, hz2⟩ := info_parts hi
  obtain ⟨v', w', hr, h2, h3, h4⟩ := run_append_str_fresh (P := P) w base t t' o.type e i0 ht hu hii hz0 hz1 hz2 v l.length (l.flatMap u8E) hown s (by unfold maxLen; omega) h63 hbase
  unfold Oper.wp execOp
  simp only [ho, resolve, invoke, builtin, Sem.run_bind, Sem.run_pure, Result.andThen_ok, List.map_toArray, List.map_cons, List.map_nil, ha.ev hs, ha.ev hx, hr]
  refine hN _ _ ⟨?_, h4, h3⟩
  rw [List.length_append, List.flatMap_append, ← strCells_flat]
  have e1 : s.data.toList.length = s.size := rfl
  rw [e1]; exact h2
theorem rn_addStr {T T' : TypeId} {q r : Operand} {a b : ByteArray} (ho : o.op = .binOp .add T q r T') (hq : ev m q = some (.string a)) (hr : ev m r = some (.string b)) (h : a.size + b.size ≤ 9223372036854775807) : (execOp (lk m) o).run P w = .ok (.value (.string (a ++ b))) w := by
  have h0 := run_string_add_sum (P := P) w a b h
  unfold execOp
  simp only [ho, lk_ev hq, lk_ev hr]
  simp [eqGuard, binOp, h0]
theorem rn_sliceStrTo {t : TypeId} {q r : Operand} {k : IntKind} {s : ByteArray} {i : Int} {j : Nat} (ho : o.op = .slice t q none (some r) none) (hq : ev m q = some (.string s)) (hr : ev m r = some (.int k i)) (ht : P.underlying t = some .string) (hij : i = (j : Nat)) (hj : j ≤ s.size) : (execOp (lk m) o).run P w = .ok (.value (.string (s.extract 0 j))) w := by
  subst hij
  have hrun : (Instr.slice t (.string s) none (some (.int k ((j : Nat) : Int))) none).run P w = .ok (.string (s.extract 0 j)) w := by
    rw [run_slice_string_h (s := s) (ht := ht) (kh := k) (h := ((j : Nat) : Int)) (h0 := by omega) (h2 := by omega)]; rfl
  unfold execOp
  simp only [ho, Option.map_some, Option.map_none, lk_ev hq, lk_ev hr, run_sliceAt_string (h := ht), hrun, Sem.run_bind, Result.andThen_ok, Sem.run_pure]
theorem rn_convOwn {src dst e : TypeId} {q : Operand} {l : List UInt8} {base : Nat} (ho : o.op = .convert src dst q) (hq : ev m q = some v) (hs : P.underlying src = some (.slice e)) (he : P.underlying e = some (.int .u8)) (hd : P.underlying dst = some .string)
    (h : w.ownsRow base e 1 v l.length (l.flatMap u8E)) : (execOp (lk m) o).run P w = .ok (.value (.string ⟨l.toArray⟩)) w := by
  have hrun : (convert src dst v).run P w = .ok (.string ⟨l.toArray⟩) w := by
    rcases h.2 with ⟨rfl, h0⟩ | ⟨g, cap, cur, rfl, hbg, hg, hnc, hcm, hcs, htake⟩
    · have := run_convert_bytes_nil (P := P) (w := w) src e hs he 0 0 dst hd
      obtain rfl : l = [] := List.eq_nil_of_length_eq_zero h0
      exact this
    · rw [← strOfNums_bytesU]
      refine run_convert_bytes_arg w src e hs he g 0 l.length cap _ (by simp) (fun i hi => ?_) dst hd
      have hc := h.cells (g := g) rfl i (.int .u8 ((l[i].toNat : Nat) : Int)) (by rw [flat_u8, List.getElem?_map, List.getElem?_eq_getElem hi]; rfl)
      rw [Addr.add_lit] at hc
      rw [hc]; simp [List.getD, hi]
  unfold execOp
  simp only [ho, lk_ev hq, Sem.run_bind, hrun, Result.andThen_ok, Sem.run_pure]
end
section
variable {K V : Type} [DecidableEq K] {P : Program} {n : Nat} {m : List (Nat × Value)} {w x : World} {o : Oper} {B r c : Nat} {kv : K → Value} {enc : V → Value} {g : K → Option V} {kt e t : TypeId} {q s : Operand} {a : K} {v : V}
theorem rn_lookO {f : V} {z : V} (KK : KL P kt kv) (ho : o.op = .lookup t q s false) (hq : ev m q = some (.map (some B))) (hr : ev m s = some (kv a)) (ht : P.underlying t = some (.map kt e)) (hz : ∀ w : World, (zeroValue e).run P w = .ok (enc z) w) (h : MapO kv enc w B g c) (hf : (g a).getD z = f) :
    (execOp (lk m) o).run P w = .ok (.value (enc f)) w := by
  obtain ⟨l, h1, h2, _⟩ := h
  have h3 := rn_look (a := a) KK ho hq hr ht hz h1
  rw [h3, h2 a, ← hf]
  cases g a <;> rfl
theorem rn_lookOT {f : V} {z : V} {b : Bool} (KK : KL P kt kv) (ho : o.op = .lookup t q s true) (hq : ev m q = some (.map (some B))) (hr : ev m s = some (kv a)) (ht : P.underlying t = some (.map kt e)) (hz : ∀ w : World, (zeroValue e).run P w = .ok (enc z) w) (h : MapO kv enc w B g c) (hf : (g a).getD z = f) (hb : (g a).isSome = b) :
    (execOp (lk m) o).run P w = .ok (.value (.tuple #[enc f, .bool b])) w := by
  obtain ⟨l, h1, h2, _⟩ := h
  have h3 := rn_lookOk (a := a) KK ho hq hr ht hz h1
  rw [h3, h2 a, ← hf, ← hb]
  cases g a <;> rfl
theorem op_clearO (ho : o.op = .call { callee := .builtin .clear, args := #[q], argTypes := #[t] }) (hq : ev m q = some (.map (some B))) (ht : P.underlying t = some (.map kt e)) (h : MapO kv enc w B g c) :
    Op1 P n m o w (fun _ x => MapO kv enc x B (fun _ => none) 0 ∧ x.heap.size = w.heap.size ∧ w.grownBy x (some B)) := by
  intro ac ha N Q hN
  obtain ⟨l, ⟨es, cl, h1, h2, h3, h4, h5⟩, _⟩ := h
  have hlt := (Array.getElem?_eq_some_iff.1 h1).1
  have hrun : (Builtin.clear_ #[t] o.type #[.map (some B)]).run P w = .ok (.tuple #[]) { w with heap := w.heap.setIfInBounds B (.map #[] cl) } := by
    have hg : (getObj B).run P w = .ok (.map es cl) w := by simp [getObj, Sem.run, h1]
    have hs : (setObj B (.map #[] cl)).run P w = .ok () { w with heap := w.heap.setIfInBounds B (.map #[] cl) } := by simp [setObj, Sem.run, h1]
    simp [Builtin.clear_, run_underlying ht, Sem.run_bind, hg, hs]
  unfold Oper.wp execOp
  simp only [ho, resolve, invoke, builtin, Sem.run_bind, Sem.run_pure, Result.andThen_ok, List.map_toArray, List.map_cons, List.map_nil, ha.ev hq, hrun]
  refine hN _ _ ⟨⟨[], ⟨#[], cl, by simp [Array.getElem?_setIfInBounds_self_of_lt hlt], rfl, by simp, by simp, by simp⟩, fun a => by simp, by simp⟩, by simp, setObj_grown w B _⟩
end
section
variable {P : Program} {n : Nat} {m : List (Nat × Value)} {w : World} {o : Oper} {v : Value} {α : Type} {enc : α → List Value} {l : List α} {sz base : Nat} {T : TypeId}
/-- What is left of a row that is cut. -/
theorem row_cut (h : w.ownsRow base T sz v l.length (l.flatMap enc)) (hsz : ∀ y, (enc y).length = sz) (k : Nat) (hk : k ≤ l.length) (h0 : v ≠ .slice none 0 0 ∨ True) : w.ownsRow base T sz (subV v 0 k sz) (l.take k).length ((l.take k).flatMap enc) := by
  have hlt : (l.take k).length = k := by rw [List.length_take]; omega
  have hfl : ((l.take k).flatMap enc).length = k * sz := by rw [flat_len _ (fun y _ => hsz y), hlt]
  refine ⟨by rw [hfl, hlt], ?_⟩
  rcases h.2 with ⟨rfl, h1⟩ | ⟨g, cap, cur, rfl, hg, hh, hnc, hcm, hcs, htk⟩
  · obtain rfl : l = [] := List.eq_nil_of_length_eq_zero h1
    obtain rfl : k = 0 := by simpa using hk
    exact .inl ⟨by simp [subV, sliced], rfl⟩
  · refine .inr ⟨g, cap, cur, by rw [hlt]; simp [subV, sliced, Addr.add], hg, hh, by rw [hlt]; omega, hcm, hcs, ?_⟩
    rw [hlt]
    have h2 : cur.toList.take (k * sz) = (cur.toList.take (l.length * sz)).take (k * sz) := by
      rw [List.take_take]; congr 1; rw [Nat.min_eq_left (Nat.mul_le_mul_right _ hk)]
    rw [h2, htk]
    have h3 : l.flatMap enc = (l.take k).flatMap enc ++ (l.drop k).flatMap enc := by rw [← List.flatMap_append, List.take_append_drop]
    rw [h3, List.take_append_of_le_length (by rw [hfl]; exact Nat.le_refl _), List.take_of_length_le (by rw [hfl]; exact Nat.le_refl _)]
theorem cut_block (h : w.ownsRow base T sz v l.length (l.flatMap enc)) (k : Nat) : (subV v 0 k sz).ownBlock = v.ownBlock := by
  rcases h.2 with ⟨rfl, _⟩ | ⟨g, cap, cur, rfl, _⟩ <;> simp [subV, sliced, Value.ownBlock, Addr.add]
/-- 'clear(row)': its room stays the call's own. -/
theorem op_clearRow {q : Operand} {t : TypeId} {z : Value} (ho : o.op = .call { callee := .builtin .clear, args := #[q], argTypes := #[t] }) (hq : ev m q = some v) (ht : P.underlying t = some (.slice T)) (hv : ∀ w : World, (zeroValue T).run P w = .ok z w) (hzs : z.cells.size = sz) (hz1 : ∀ u ∈ z.cells.toList, u.oneCell' = true)
    (h : w.ownsRow base T sz v l.length (l.flatMap enc)) : Op1 P n m o w (fun _ x => x.ownsRow base T sz v l.length (Builtin.zeroCells z.cells l.length).toList ∧ w.grownBy x v.ownBlock) := by
  intro ac ha N Q hN
  have hzl : (Builtin.zeroCells z.cells l.length).toList.length = l.length * sz := by rw [Array.length_toList, size_zeroCells, hzs]
  have key : ∃ x, (Builtin.clear_ #[t] o.type #[v]).run P w = .ok (.tuple #[]) x ∧ x.ownsRow base T sz v l.length (Builtin.zeroCells z.cells l.length).toList ∧ w.grownBy x v.ownBlock := by
    rcases h.2 with ⟨rfl, h1⟩ | ⟨g, cap, cur, rfl, hg, hh, hnc, hcm, hcs, htk⟩
    · refine ⟨w, by simp [Builtin.clear_, run_underlying ht], ?_, World.grownBy.refl _ _⟩
      rw [h1] at hzl ⊢
      refine ⟨by simpa using hzl, .inl ⟨rfl, rfl⟩⟩
    · by_cases h0 : l.length = 0
      · rw [h0] at hzl h ⊢
        refine ⟨w, by simp [Builtin.clear_, run_underlying ht], ⟨by simpa using hzl, .inr ⟨g, cap, cur, rfl, hg, hh, by omega, hcm, hcs, ?_⟩⟩, World.grownBy.refl _ _⟩
        have : (Builtin.zeroCells z.cells 0).toList = [] := List.eq_nil_of_length_eq_zero (by simpa using hzl)
        rw [this]; simp
      · have hone : ∀ u ∈ (Builtin.zeroCells z.cells l.length).toList, u.oneCell' = true := by
          intro u hu
          simp only [Builtin.zeroCells, Array.toList_map, List.mem_map, Array.toList_range, List.mem_range] at hu
          obtain ⟨i, hi, rfl⟩ := hu
          have hpos : 0 < z.cells.size := by
            rcases Nat.eq_zero_or_pos z.cells.size with q | q
            · rw [q] at hi; simp at hi
            · exact q
          have := Nat.mod_lt i hpos
          rw [getElem!_pos z.cells _ this]
          exact hz1 _ (by simp)
        have hle : l.length * sz ≤ cur.size := by rw [hcs]; exact Nat.mul_le_mul_right _ hnc
        have hst := run_storeCells_at P g 0 T (Builtin.zeroCells z.cells l.length).toList 0 cur w hh (by rw [hzl]; omega) hone
        simp only [Nat.zero_add, List.take_zero, List.nil_append] at hst
        refine ⟨w.setRow g ((Builtin.zeroCells z.cells l.length).toList ++ cur.toList.drop (Builtin.zeroCells z.cells l.length).toList.length).toArray, ?_, ⟨hzl, .inr ⟨g, cap, _, rfl, hg, setRow_heap w g cur _ T _ hh, hnc, hcm, ?_, ?_⟩⟩, ⟨rfl, rfl, rfl, by simp, fun k _ hk => setRow_other w g k _ (fun e => hk (by simp [Value.ownBlock, e]))⟩⟩
        · obtain ⟨q1, hq1⟩ : ∃ q1, l.length = q1 + 1 := ⟨l.length - 1, by omega⟩
          rw [hq1] at hst ⊢
          simp only [Builtin.clear_, run_underlying ht, hv, Sem.run_bind, Result.andThen_ok, hst, List.size_toArray, List.length_cons, List.length_nil, Nat.reduceAdd, Nat.reduceLT, List.getElem?_toArray, List.getElem?_cons_zero]
          rfl
        · simp only [List.size_toArray, List.length_append, List.length_drop, hzl, Array.length_toList]; omega
        · rw [List.take_append_of_le_length (by rw [hzl]; exact Nat.le_refl _), List.take_of_length_le (by rw [hzl]; exact Nat.le_refl _)]
  obtain ⟨x, hx, h1, h2⟩ := key
  unfold Oper.wp execOp
  simp only [ho, resolve, invoke, builtin, Sem.run_bind, Sem.run_pure, Result.andThen_ok, List.map_toArray, List.map_cons, List.map_nil, ha.ev hq, hx]
  exact hN _ _ ⟨h1, h2⟩
end
end Go.Proofs.Ytfjhlckklgeokaa
