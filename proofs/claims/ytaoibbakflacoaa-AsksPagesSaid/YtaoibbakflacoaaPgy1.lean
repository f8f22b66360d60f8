/- Put together: LibPgz, SlPgz, ConfAzPgz, ConfBzPgz, ConfDzPgz, PexPgz, PexBPgz, AppPgz, PexCPgz, PexDPgz, PexTPgz, MapPgz, MapCPgz, MapRPgz, MapOPgz, ButPgz, AppStrPgz, PexUPgz, RlgOPgz, OpenPgz, StrsPgz, EntRPgz, PexVPgz, PexSnPgz, MeAPgz, MsgOPgz, AskAPgz, KeysAPgz, KeysBPgz, AskBPgz, AskCPgz. Conditions: as each says. -/
import Derived.Test.YtaoibbakflacoaaRows
import Derived.WalkKit
import Derived.WalkSpells
import Derived.WalkLawsBesides
import Derived.Deep.LoopGhost
import Derived.Lib.Hide
import Derived.Laws.IdiomStrings
import Derived.Lib.QuietBelow
import Derived.BigQuiet
import Derived.PlainAid
import Derived.Lib.SmallJoins
import Derived.Deep.MidRow
import Derived.Laws.AppendOwnNone
import Derived.Laws.StructEq
import Derived.Laws.Pointers
import Derived.Deep.QuietTactic
import Derived.Deep.RegionHeld3
import Derived.Deep.AppendLies
import Derived.Deep.RegionLaw
import Derived.StringKeys
import Derived.Maps.RangeRun
import Derived.MapKept
import Derived.OwnWalk
import Derived.Lib.AppendStr
import Derived.Laws.BytesArg
import Derived.ProofKit
import Derived.Deep.Slices
import Derived.Deep.Fields
import Derived.SliceStrings
import Derived.SizedLaws
import Derived.Laws.RangeString
import Derived.Laws.Strings
import Derived.Deep.AppendSrc
import Derived.Laws.AppendOwn
import Derived.LoopN
/- Small laws on worlds, rows and bounds that the walks of this seat share. Conditions: none. -/
namespace Go.Proofs.Ytaoibbakflacoaa
open Go.RowKit

theorem ret_int {k : IntKind} {a b : Int} (h : a = b) : Ending.returned (.int k a) = .returned (.int k b) := by rw [h]
theorem ret_bool {a b : Bool} (h : a = b) : Ending.returned (.bool a) = .returned (.bool b) := by rw [h]
/-- A row of a world is a row of what comes behind it. -/
theorem row_below {B : Nat} {e : TypeId} {k : Nat} {v : Value} {n : Nat} {xs : List Value} {w w' : World} (h : w.ownsRow B e k v n xs) (hb : Below w.heap.size w w') : w'.ownsRow B e k v n xs := by
  obtain ⟨h1, h2⟩ := h
  refine ⟨h1, ?_⟩
  rcases h2 with h2 | ⟨g, cap, cur, hv, hg, hh, r⟩
  · exact Or.inl h2
  · exact Or.inr ⟨g, cap, cur, hv, hg, by rw [hb.block g (Array.getElem?_eq_some_iff.1 hh).1]; exact hh, r⟩
theorem below_draws {B : Nat} {w w' : World} (h : Below B w w') (n : Nat) : Below B w (w'.drewN n) := ⟨h.os, h.tape, h.output, h.size, h.block⟩
/-- A cell of a world, read behind it. -/
theorem cell_below {w w' : World} (h : Below w.heap.size w w') {a : Addr} {v : Value} (hc : w.cell? a = some v) : w'.cell? a = some v :=
  (h.cell (World.block_lt_of_cell? w a hc)).trans hc
end Go.Proofs.Ytaoibbakflacoaa

/- Slices that are read, whatever their elements: their cells; a struct that is loaded out of one; an append from one. Conditions: none. -/
namespace Go.Proofs.Ytaoibbakflacoaa
open Go.RowKit

/-- The slice v reads as the list l: each element's cells are what enc says, sz of them. -/
def SliceOf {α : Type} (enc : α → List Value) (sz : Nat) (w : World) (v : Value) (l : List α) : Prop :=
  ∃ ao cap, v = .slice ao l.length cap ∧ l.length ≤ cap ∧ cap ≤ 9223372036854775807 ∧ (ao = none → l.length = 0 ∧ cap = 0) ∧
    ∀ j (h : j < l.length), ∃ b off, ao = some ⟨b, off, none⟩ ∧ w.rangeAt b (off + j * sz) (enc l[j])

theorem SliceOf.below {α : Type} {enc : α → List Value} {sz : Nat} {w w' : World} {v : Value} {l : List α} (h : SliceOf enc sz w v l) (hb : Below w.heap.size w w') : SliceOf enc sz w' v l := by
  obtain ⟨ao, cap, hv, h1, h2, h3, h4⟩ := h
  refine ⟨ao, cap, hv, h1, h2, h3, fun j hj => ?_⟩
  obtain ⟨b, off, e, hr⟩ := h4 j hj
  exact ⟨b, off, e, fun i u hu => cell_below hb (hr i u hu)⟩
theorem SliceOf.nil {α : Type} (enc : α → List Value) (sz : Nat) (w : World) : SliceOf enc sz w (.slice none 0 0) ([] : List α) :=
  ⟨none, 0, rfl, by simp, by omega, fun _ => ⟨rfl, rfl⟩, fun j hj => absurd hj (by simp)⟩
/-- One integer a cell. -/
def intE (k : IntKind) (n : Int) : List Value := [.int k n]
/-- The cells of rows of one size, one behind the other. -/
theorem flat_at {α : Type} {enc : α → List Value} {size : Nat} : ∀ (l : List α) (q r : Nat) (hql : q < l.length), (∀ y ∈ l, (enc y).length = size) → r < size → (l.flatMap enc)[q * size + r]? = (enc l[q])[r]?
  | [], q, r, hql, _, _ => absurd hql (by simp)
  | y :: l, 0, r, _, hy, hr => by
    rw [List.flatMap_cons, Nat.zero_mul, Nat.zero_add, List.getElem?_append_left (by rw [hy y (by simp)]; exact hr)]; rfl
  | y :: l, q + 1, r, hql, hy, hr => by
    rw [List.flatMap_cons, List.getElem?_append_right (by rw [hy y (by simp), Nat.add_mul]; omega), hy y (by simp), show (q + 1) * size + r - size = q * size + r by rw [Nat.add_mul]; omega]
    exact flat_at l q r (by simpa using hql) (fun z hz => hy z (by simp [hz])) hr
theorem flat_len {α : Type} {enc : α → List Value} {size : Nat} : ∀ (l : List α), (∀ y ∈ l, (enc y).length = size) → (l.flatMap enc).length = l.length * size
  | [], _ => by simp
  | y :: l, hy => by rw [List.flatMap_cons, List.length_append, hy y (by simp), flat_len l (fun z hz => hy z (by simp [hz])), List.length_cons, Nat.add_mul]; omega
/-- A row of the call's own. -/
theorem SliceOf.own {α : Type} {enc : α → List Value} {sz : Nat} {w : World} {B : Nat} {e : TypeId} {v : Value} {l : List α} (h : w.ownsRow B e sz v l.length (l.flatMap enc)) (hsz : ∀ x ∈ l, (enc x).length = sz) : SliceOf enc sz w v l := by
  rcases h.2 with ⟨hv, hn⟩ | ⟨g, cap, cur, hv, hg, _, hnc, hcm, _⟩
  · obtain rfl : l = [] := List.eq_nil_of_length_eq_zero hn
    rw [hv]; exact SliceOf.nil _ _ _
  · refine ⟨some ⟨g, 0, none⟩, cap, hv, hnc, by unfold maxLen at hcm; omega, fun h => by (cases h), fun j hj => ⟨g, 0, rfl, fun i u hu => ?_⟩⟩
    have hi : i < sz := by rw [← hsz _ (List.getElem_mem hj)]; exact (List.getElem?_eq_some_iff.1 hu).1
    have hlt : j * sz + i < l.length * sz := by
      have : (j + 1) * sz ≤ l.length * sz := Nat.mul_le_mul_right _ hj
      rw [Nat.add_mul] at this; omega
    have hc := h.cells (g := g) (by rw [hv]; rfl) (j * sz + i) u
    rw [Addr.add_lit] at hc
    rw [Nat.zero_add]; rw [Nat.zero_add] at hc
    exact hc (by rw [flat_at l j i hj hsz hi]; exact hu)

/-- A row that was just built of cells. -/
theorem row_built (w : World) (cur : Array Value) (e : TypeId) (sz n B : Nat) (hB : B ≤ w.heap.size) (hn : cur.size = n * sz) (hm : n ≤ maxLen) :
    (w.alloc (.cells cur e)).ownsRow B e sz (.slice (some ⟨w.heap.size, 0, none⟩) n n) n cur.toList :=
  ⟨by simpa using hn, .inr ⟨w.heap.size, n, cur, rfl, hB, heap_alloc_new w _, Nat.le_refl _, hm, hn, by rw [List.take_of_length_le (by simp [hn])]⟩⟩
/-- 'append(out, src...)', out the call's own, src any slice that reads as news: nil, empty or not. -/
theorem wpList_append_src {P : Program} {w : World} {ops : Array Oper} {rest : List Oper} {o : Oper} {a : Act} {Q : Exit → Act → World → Prop} (hgd : o.guard = none) (s x : Operand) (t : TypeId)
    (ho : o.op = .call { callee := .builtin .append, args := #[s, x], argTypes := #[t, t] })
    (base : Nat) (e : TypeId) (i : TypeInfo) (z : Value) (size bytes : Nat) (ht : P.underlying t = some (.slice e)) (hi : P.info? e = some i) (hz : i.zero = some z)
    (hsize : i.size = size) (hby : i.bytes = bytes) (hzs : z.cells.size = size) (hsz : 0 < size)
    (v : Value) (n : Nat) (xs : List Value) (hs : a.eval s = v) (hown : w.ownsRow base e size v n xs)
    {α : Type} (enc : α → List Value) (l : List α) (vs : Value) (hx : a.eval x = vs) (hsl : SliceOf enc size w vs l) (hen : ∀ y ∈ l, (enc y).length = size ∧ ∀ u ∈ enc y, u.oneCell' = true)
    (h63 : n + l.length ≤ maxLen) (hbytes : (n + l.length) * bytes ≤ 140737488355328) (hbase : base ≤ w.heap.size)
    (h : ∀ v' w', w'.ownsRow base e size v' (n + l.length) (xs ++ l.flatMap enc) → w.grownBy w' v.ownBlock → wpList P ops Q rest (a.put o.dst v') w') : wpList P ops Q (o :: rest) a w := by
  obtain ⟨ao, cap, rfl, _, _, hnil, hcell⟩ := hsl
  have hl := flat_len l (fun y hy => (hen y hy).1)
  cases ao with
  | none =>
    obtain ⟨e0, e1⟩ := hnil rfl
    obtain rfl : l = [] := List.eq_nil_of_length_eq_zero e0
    subst e1
    exact wpList_append_own_none hgd s x t ho base e i size ht hi v n xs hs hown (by simpa using hx) (h v w (by simpa using hown) (World.grownBy.refl _ _))
  | some ad =>
    refine wpList_append_own _ hgd s x t ho base e i z size bytes ht hi hz hsize hby hzs hsz v n xs hs hown ad l.length cap (l.flatMap enc) hx hl ?_ ?_ h63 hbytes hbase (fun v' w' h1 h2 _ => h v' w' h1 h2)
    · intro j u hu
      have hj : j < l.length * size := by rw [← hl]; exact (List.getElem?_eq_some_iff.1 hu).1
      have hq : j / size < l.length := Nat.div_lt_of_lt_mul (by rw [Nat.mul_comm]; exact hj)
      obtain ⟨b, off, hb, hr⟩ := hcell _ hq
      cases hb
      rw [Addr.add_lit]
      have hdm : j / size * size + j % size = j := by rw [Nat.mul_comm]; exact Nat.div_add_mod j size
      have hr' := hr (j % size) u
      rw [Nat.add_assoc, hdm] at hr'
      refine hr' ?_
      rw [← flat_at l (j / size) (j % size) hq (fun y hy => (hen y hy).1) (Nat.mod_lt _ hsz), hdm]; exact hu
    · intro u hu
      obtain ⟨y, hy, huy⟩ := List.mem_flatMap.1 hu
      exact (hen y hy).2 u huy
end Go.Proofs.Ytaoibbakflacoaa

/- Configurations: members, places. Conditions: none. -/
namespace Go.Proofs.Ytaoibbakflacoaa
open Go.RowKit Go.PlainAid

/-- A member: Id, Serial. -/
abbrev MemT := Int × Int
def memE (m : MemT) : List Value := [.int .i64 m.1, .int .i64 m.2]
def memOk (m : MemT) : Prop := (-9223372036854775808 ≤ m.1 ∧ m.1 ≤ 9223372036854775807) ∧ (-9223372036854775808 ≤ m.2 ∧ m.2 ≤ 9223372036854775807)
structure ConfT where
  ep : Int
  mv : Value
  ms : List MemT
  fl : Int
instance : Inhabited ConfT := ⟨⟨0, .slice none 0 0, [], 0⟩⟩
structure ConfOk (w : World) (c : ConfT) : Prop where
  ms : SliceOf memE 2 w c.mv c.ms
  each : ∀ m ∈ c.ms, memOk m
  e0 : -9223372036854775808 ≤ c.ep
  e1 : c.ep ≤ 9223372036854775807
  f0 : 0 ≤ c.fl
  f1 : c.fl < 18446744073709551616
theorem ConfOk.below {w w' : World} {c : ConfT} (h : ConfOk w c) (hb : Below w.heap.size w w') : ConfOk w' c := ⟨h.ms.below hb, h.each, h.e0, h.e1, h.f0, h.f1⟩
end Go.Proofs.Ytaoibbakflacoaa

/- Package conf and the document's own: places, who stands ahead and behind. Conditions: none. -/
namespace Go.Proofs.Ytaoibbakflacoaa
open Go.RowKit Go.PlainAid

def HA (n : Nat) (c : ConfT) (m : MemT) (w' : World) : Prop := w'.cell? ⟨n, 0, none⟩ = some (.int .i64 c.ep) ∧ w'.cell? ⟨n, 1, none⟩ = some c.mv ∧ w'.cell? ⟨n, 2, none⟩ = some (.int .u64 c.fl) ∧ w'.cell? ⟨n + 1, 0, none⟩ = some (.int .i64 m.1) ∧ w'.cell? ⟨n + 1, 1, none⟩ = some (.int .i64 m.2)
theorem HA.step {n : Nat} {c : ConfT} {m : MemT} {w1 w2 : World} (h : w1.cell? ⟨n, 0, none⟩ = some (.int .i64 c.ep) ∧ w1.cell? ⟨n, 1, none⟩ = some c.mv ∧ w1.cell? ⟨n, 2, none⟩ = some (.int .u64 c.fl) ∧ w1.cell? ⟨n + 1, 0, none⟩ = some (.int .i64 m.1) ∧ w1.cell? ⟨n + 1, 1, none⟩ = some (.int .i64 m.2)) (hb : Below w1.heap.size w1 w2) : HA n c m w2 :=
  ⟨cell_below hb h.1, cell_below hb h.2.1, cell_below hb h.2.2.1, cell_below hb h.2.2.2.1, cell_below hb h.2.2.2.2⟩
end Go.Proofs.Ytaoibbakflacoaa

/- Package conf and the document's own: what is wrong with a configuration. Conditions: none. -/
namespace Go.Proofs.Ytaoibbakflacoaa
open Go.RowKit Go.PlainAid

def badId (m : MemT) : Prop := m.1 < 0 ∨ 4 ≤ m.1
def badSer (m : MemT) : Prop := m.2 < 1 ∨ 1073741824 < m.2
instance (m : MemT) : Decidable (badId m) := by unfold badId; infer_instance
instance (m : MemT) : Decidable (badSer m) := by unfold badSer; infer_instance
end Go.Proofs.Ytaoibbakflacoaa

/- Steps of a walk over known slots: what a frame's slots hold is kept as a list; each operation, branch and loop by one law. Conditions: none. -/
namespace Go.Proofs.Ytaoibbakflacoaa
open Go.RowKit

section
variable {P : Program} {n : Nat} {m : List (Nat × Value)} {a : Act} {w : World}

/-- What is known of a frame: its size, that nothing is deferred, what some of its slots hold. -/
structure Slots (n : Nat) (m : List (Nat × Value)) (a : Act) : Prop where
  size : a.tmps.size = n
  defers : a.defers = []
  look : ∀ t v, m.lookup t = some v → a.tmps.getD t undef = v

def ev (m : List (Nat × Value)) : Operand → Option Value
  | .tmp t => m.lookup t
  | .const v => some v
  | .global g => some (.pointer (some ⟨g, 0, none⟩))
  | .func f => some (.func (.func f) #[] #[])
theorem Slots.ev (h : Slots n m a) {x : Operand} {v : Value} (hx : ev m x = some v) : a.eval x = v := by
  cases x with
  | tmp t => exact h.look t v hx
  | const u => simpa [Go.Proofs.Ytaoibbakflacoaa.ev, Act.eval] using hx
  | global g => simpa [Go.Proofs.Ytaoibbakflacoaa.ev, Act.eval] using hx
  | func f => simpa [Go.Proofs.Ytaoibbakflacoaa.ev, Act.eval] using hx
def lk (m : List (Nat × Value)) (x : Operand) : Value := (ev m x).getD undef
def okOps (m : List (Nat × Value)) (o : Op) : Bool := o.operands.all fun x => (ev m x).isSome
theorem Slots.lk (h : Slots n m a) {x : Operand} (hx : (Go.Proofs.Ytaoibbakflacoaa.ev m x).isSome = true) : a.eval x = lk m x := by
  obtain ⟨v, hv⟩ := Option.isSome_iff_exists.1 hx
  rw [h.ev hv]; simp [Go.Proofs.Ytaoibbakflacoaa.lk, hv]
theorem Slots.put {d : Nat} {v : Value} (h : Slots n m a) (hd : d < n) : Slots n ((d, v) :: m) (a.put (some d) v) := by
  obtain ⟨h1, h2, h3⟩ := h
  refine ⟨by simp [Act.put, h1], h2, fun t u ht => ?_⟩
  rw [List.lookup_cons] at ht
  by_cases e : t = d
  · subst e
    simp at ht
    subst ht
    simp [Act.put, h1, hd]
  · have : (t == d) = false := by simpa using e
    rw [this] at ht
    have := h3 t u ht
    simp only [Act.put, Array.getD_eq_getD_getElem?] at this ⊢
    rw [Array.getElem?_setIfInBounds_ne (by omega)]
    exact this
/-- Less is known. -/
def Sub (m : List (Nat × Value)) : List (Nat × Value) → Prop
  | [] => True
  | p :: r => m.lookup p.1 = some p.2 ∧ Sub m r
theorem slot_eq {m : List (Nat × Value)} {t : Nat} {v v' : Value} (h : m.lookup t = some v) (e : v = v') : m.lookup (t, v').1 = some (t, v').2 := by subst e; exact h
theorem Sub.get {m : List (Nat × Value)} : ∀ {l : List (Nat × Value)}, Sub m l → ∀ t v, l.lookup t = some v → m.lookup t = some v
  | [], _, t, v, h => by simp at h
  | p :: r, hs, t, v, h => by
    rw [List.lookup_cons] at h
    by_cases e : t = p.1
    · subst e; simp at h; subst h; exact hs.1
    · have : (t == p.1) = false := by simpa using e
      rw [this] at h
      exact hs.2.get t v h
theorem Slots.sub {l : List (Nat × Value)} (h : Slots n m a) (hs : Sub m l) : Slots n l a := ⟨h.size, h.defers, fun t v ht => h.look t v (hs.get t v ht)⟩
theorem Slots.none {dst : Option Tmp} {v : Value} (h : Slots n m a) (hd : dst = none) : Slots n m (a.put dst v) := by subst hd; exact h

/-- Operation o, in a frame of which m is known and in world w: its value and the world behind it. -/
def Op1 (P : Program) (n : Nat) (m : List (Nat × Value)) (o : Oper) (w : World) (R : Value → World → Prop) : Prop :=
  ∀ a, Slots n m a → ∀ (N : Act → World → Prop) (Q : Exit → Act → World → Prop), (∀ v w', R v w' → N (a.put o.dst v) w') → o.wp P a w N Q

variable {o : Oper} {ops : Array Oper} {rest : List Oper} {Q : Exit → Act → World → Prop} {R : Value → World → Prop}
theorem op_run {v : Value} {w' : World} (hok : okOps m o.op = true) (hsel : (match o.op with | .select .. => true | _ => false) = false) (hrun : (execOp (lk m) o).run P w = .ok (.value v) w') : Op1 P n m o w (fun u x => u = v ∧ x = w') := by
  intro a ha N Q h
  have he : execOp a.eval o = execOp (lk m) o := execOp_congr o (fun cs b e => by simp [e] at hsel) (fun x hx => ha.lk (Array.all_eq_true_iff_forall_mem.1 hok x hx))
  unfold Oper.wp
  rw [he, hrun]
  exact h _ _ ⟨rfl, rfl⟩
theorem Op1.mono {R' : Value → World → Prop} (h : Op1 P n m o w R) (hr : ∀ v w', R v w' → R' v w') : Op1 P n m o w R' := fun a ha N Q hN => h a ha N Q fun v w' hv => hN v w' (hr v w' hv)
/-- A call of a Go function. -/
theorem op_call {c : Call} {x : Operand} {f : FuncId} {args : Array Value} {E : Ending → World → Prop} (ho : o.op = .call c) (hc : c.callee = .value x) (hf : ev m x = some (.func (.func f) #[] #[]))
    (hok : okOps m o.op = true) (hargs : c.args.map (lk m) = args) (hcall : (callFunc f args).run P w = .ok (.enter f args) w) (h : Calls P f args w E) (hE : ∀ e w', E e w' → ∃ v, e = .returned v ∧ R v w') : Op1 P n m o w R := by
  intro a ha N Q hN
  have he : execOp a.eval o = execOp (lk m) o := execOp_congr o (fun cs b e => by simp [e] at ho) (fun x hx => ha.lk (Array.all_eq_true_iff_forall_mem.1 hok x hx))
  unfold Oper.wp
  rw [he]
  have hfx : lk m x = .func (.func f) #[] #[] := by simp [lk, hf]
  have : (execOp (lk m) o).run P w = .ok (.enter f args) w := by
    simp only [execOp, ho, resolve, hc, hfx, Deferred.ofValue, hargs, Sem.run_bind, Sem.run_pure, Result.andThen_ok, invoke]
    simpa using hcall
  rw [this, Oper.upon_enter]
  refine h.mono fun e w' he => ?_
  obtain ⟨v, rfl, hv⟩ := hE e w' he
  exact hN v w' hv
theorem lk_ev {x : Operand} {v : Value} (hx : ev m x = some v) : lk m x = v := by simp [lk, hx]
/-- One cell is loaded. -/
theorem rn_load1 {t : TypeId} {x : Operand} {p : Addr} {v : Value} (ho : o.op = .load t x) (hx : ev m x = some (.pointer (some p))) (ht : ∀ w : World, (isAgg t).run P w = .ok false w) (hc : w.cell? p = some v) : (execOp (lk m) o).run P w = .ok (.value v) w := by
  unfold execOp
  have hl : (Instr.loadAt t (.pointer (some p))).run P w = .ok v w := by
    simp [Instr.loadAt, Instr.sureAddr, loadVar, ht, Sem.run_bind, load, Sem.run, hc]
  simp only [ho, lk_ev hx, Sem.run_bind, hl, Result.andThen_ok, Sem.run_pure]
/-- Several cells are loaded. -/
theorem rn_loadN {t : TypeId} {x : Operand} {b o' : Nat} {cs : List Value} {d : TypeDesc} (ho : o.op = .load t x) (hx : ev m x = some (.pointer (some ⟨b, o', none⟩))) (hu : P.underlying t = some d) (hd : d.isRow = true) (hi : (P.info? t).map (·.size) = some cs.length) (hc : w.rangeAt b o' cs) : (execOp (lk m) o).run P w = .ok (.value (.agg cs.toArray)) w := by
  unfold execOp
  simp only [ho, lk_ev hx, Instr.loadAt, Instr.sureAddr, Sem.run_bind, Sem.run_pure, Result.andThen_ok, run_loadVar_mid w b o' t cs d hc hu hd hi]
/-- An int's sum, difference, product that is in range. -/
theorem rn_arith {op : BinOp} {T T' : TypeId} {x y : Operand} {k : IntKind} {i j z : Int} (ho : o.op = .binOp op T x y T') (hx : ev m x = some (.int k i)) (hy : ev m y = some (.int k j)) (hop : Op.intArith op k i j = .pure (.int k (k.wrap z))) (hne : (op matches .shl | .shr | .eql | .neq) = false) (hcl : binOp op T (.int k i) (.int k j) = Op.intArith op k i j) (hz : k.wrap z = z) : (execOp (lk m) o).run P w = .ok (.value (.int k z)) w := by
  unfold execOp
  have hg : (eqGuard op T x y (.int k i) (.int k j)).run P w = .ok () w := by
    unfold eqGuard
    cases op <;> simp at hne <;> rfl
  simp only [ho, lk_ev hx, lk_ev hy, Sem.run_bind, hg, hcl, hop, hz, Result.andThen_ok]
  rfl

theorem rn_arith' {op : BinOp} {T T' : TypeId} {x y : Operand} {k : IntKind} {i j z z' : Int} (ho : o.op = .binOp op T x y T') (hx : ev m x = some (.int k i)) (hy : ev m y = some (.int k j)) (hop : Op.intArith op k i j = .pure (.int k (k.wrap z))) (hne : (op matches .shl | .shr | .eql | .neq) = false) (hcl : binOp op T (.int k i) (.int k j) = Op.intArith op k i j) (hz : k.wrap z = z) (he : z = z') : (execOp (lk m) o).run P w = .ok (.value (.int k z')) w := by
  subst he; exact rn_arith ho hx hy hop hne hcl hz
theorem rn_conv {S' T : TypeId} {x : Operand} {k k' : IntKind} {i : Int} {d : TypeDesc} (ho : o.op = .convert S' T x) (hx : ev m x = some (.int k' i)) (hS : P.underlying S' = some d) (ht : P.underlying T = some (.int k)) (hz : k.wrap i = i) : (execOp (lk m) o).run P w = .ok (.value (.int k i)) w := by
  unfold execOp
  simp only [ho, lk_ev hx, convert, Sem.run_bind, run_underlying hS, run_underlying ht, Result.andThen_ok]
  cases d <;> simp [Conv.intToInt, hz]
section minmax
variable {ts : Array TypeId} {x y : Operand} {k : IntKind} {i j : Int}
end minmax

/-! ### A plain region -/
theorem pl_nil (h : Q .normal a w) : wpList P ops Q [] a w := h
theorem getD_some {tmps : Array Value} {t : Nat} {b : Bool} (h : tmps.getD t undef = .bool b) : tmps[t]? = some (.bool b) := by
  rw [Array.getD_eq_getD_getElem?] at h
  cases hx : tmps[t]? with
  | none => rw [hx] at h; simp [undef] at h
  | some u => rw [hx] at h; simp at h; rw [h]
/-- Is a guarded operation wanted? -/
def wantB (m : List (Nat × Value)) (ops : Array Oper) (o : Oper) : Option Bool :=
  match o.guard with
  | none => some true
  | some (g, b) => match ((ops[g]?).bind (·.dst)).bind (m.lookup ·) with
    | some (.bool c) => some (c == b)
    | some (.tuple _) => some false
    | _ => none
theorem Slots.wants {c : Bool} (hs : Slots n m a) (h : wantB m ops o = some c) : Region.wanted o (yielded ops a.tmps) = c := by
  unfold wantB at h
  unfold Region.wanted
  cases hg : o.guard with
  | none => rw [hg] at h; simpa using h
  | some p =>
    obtain ⟨g, b⟩ := p
    rw [hg] at h
    simp only at h ⊢
    cases hd : (ops[g]?).bind (·.dst) with
    | none => rw [hd] at h; simp at h
    | some d =>
      rw [hd] at h
      simp only [Option.bind_some] at h
      cases hm : m.lookup d with
      | none => rw [hm] at h; simp at h
      | some u =>
        rw [hm] at h
        cases u <;> simp at h
        · rename_i q
          have := getD_some (hs.look d _ hm)
          simp [yielded, hd, this, h]
        · rename_i q
          subst h
          have h1 := hs.look d _ hm
          rw [Array.getD_eq_getD_getElem?] at h1
          have h2 : yielded ops a.tmps g = Option.none := by
            unfold yielded
            rw [hd]
            simp only [Option.bind_some]
            cases hx : a.tmps[d]? with
            | none => rfl
            | some u => rw [hx] at h1; simp at h1; subst h1; rfl
          rw [h2]; rfl
theorem pl_want {d : Nat} (hs : Slots n m a) (hg : wantB m ops o = some true) (hd : o.dst = some d) (hdn : Nat.blt d n = true) (h1 : Op1 P n m o w R)
    (h : ∀ v w' a', R v w' → Slots n ((d, v) :: m) a' → wpList P ops Q rest a' w') : wpList P ops Q (o :: rest) a w :=
  wpList_step fun K hK => by
    rw [if_pos (hs.wants hg)]
    exact h1 a hs K Q fun v w' hv => hK _ _ (h v w' _ hv (by rw [hd]; exact hs.put (by simpa using hdn)))
theorem pl_doW (hs : Slots n m a) (hg : wantB m ops o = some true) (hd : o.dst = none) (h1 : Op1 P n m o w R)
    (h : ∀ v w' a', R v w' → Slots n m a' → wpList P ops Q rest a' w') : wpList P ops Q (o :: rest) a w :=
  wpList_step fun K hK => by
    rw [if_pos (hs.wants hg)]
    exact h1 a hs K Q fun v w' hv => hK _ _ (h v w' _ hv (hs.none hd))
theorem pl_skip {d : Nat} (hs : Slots n m a) (hg : wantB m ops o = some false) (hd : o.dst = some d) (hdn : Nat.blt d n = true)
    (h : ∀ a', Slots n ((d, undef) :: m) a' → wpList P ops Q rest a' w) : wpList P ops Q (o :: rest) a w :=
  wpList_step fun K hK => by
    rw [if_neg (by simp [hs.wants hg])]
    exact hK _ _ (h _ (by rw [hd]; exact hs.put (by simpa using hdn)))

/-- An operation that leaves the world as it is. -/
theorem pl_val {d : Nat} {v : Value} (hs : Slots n m a) (hg : wantB m ops o = some true) (hd : o.dst = some d) (hdn : Nat.blt d n = true) (hok : okOps m o.op = true) (hsel : (match o.op with | .select .. => true | _ => false) = false) (hrun : (execOp (lk m) o).run P w = .ok (.value v) w)
    (h : ∀ a', Slots n ((d, v) :: m) a' → wpList P ops Q rest a' w) : wpList P ops Q (o :: rest) a w :=
  pl_want hs hg hd hdn (op_run hok hsel hrun) fun _ _ a' ⟨h1, h2⟩ hs' => by subst h1 h2; exact h a' hs'
/-! ### A region that draws its order -/
variable {md : Region.Mode} {S : World → Prop} {fuel : Nat} {listed : Array Bool} {i d : Nat}
abbrev NP (Q : Exit → Act → World → Prop) := NoPanic Q
theorem dr_start {id : Nat} {l : List Oper} (hm : P.follows .mixedOrders = true) (hS : S w.drew) (h : wpAnyH P .any l.toArray (NP Q) S l.length (Array.replicate l.length false) a w.drew) : (Code.region id l.toArray true).wp P Q a w :=
  wp_region_noPanic (wp_region_held_drew (S := S) hm hS fun _ => by simpa using h)
/-- Number i, which yields v in every world that meets S, is taken first. -/
theorem dr_take {v : Value} (hs : Slots n m a) (ho : ops[i]? = some o) (hsel : Region.noSelect ops = true) (hf : Region.free md ops listed i = true) (hr : (Region.ready md ops listed).contains i = true)
    (hw : wantB m ops o = some true) (hd : o.dst = some d) (hdn : Nat.blt d n = true) (hS : S w) (hok : okOps m o.op = true) (hrun : ∀ w, S w → (execOp (lk m) o).run P w = .ok (.value v) w)
    (h : ∀ a', Slots n ((d, v) :: m) a' → wpAnyH P md ops (NP Q) S fuel (listed.setIfInBounds i true) a' w) : wpAnyH P md ops (NP Q) S (fuel + 1) listed a w := by
  have he : execOp a.eval o = execOp (lk m) o := execOp_congr o (fun cs b e => Region.noSelect_spec hsel i o cs b ho e) (fun x hx => hs.lk (Array.all_eq_true_iff_forall_mem.1 hok x hx))
  refine wpAnyH_take ho hsel hf hr (fun _ _ _ h => h) (Or.inl ⟨hs.wants hw, fun w' hw' => by rw [he]; exact hrun w' hw'⟩) hS ?_
  exact h _ (by rw [hd]; exact hs.put (by simpa using hdn))
/-- Number i alone may come up. -/
theorem dr_one (hs : Slots n m a) (ho : ops[i]? = some o) (hr : Region.ready md ops listed = [i]) (hw : wantB m ops o = some true) (hd : o.dst = some d) (hdn : Nat.blt d n = true) (h1 : Op1 P n m o w R) (hS : ∀ v w', R v w' → S w')
    (h : ∀ v w' a', R v w' → Slots n ((d, v) :: m) a' → wpAnyH P md ops (NP Q) S fuel (listed.setIfInBounds i true) a' w') : wpAnyH P md ops (NP Q) S (fuel + 1) listed a w := by
  refine wpAnyH_all hr (by simp) fun j hj => ?_
  simp only [List.mem_singleton] at hj
  subst hj
  unfold wpOp
  simp only [ho, hs.wants hw, if_true]
  exact .inl (h1 a hs _ _ fun v w' hv => ⟨hS v w' hv, h v w' _ hv (by rw [hd]; exact hs.put (by simpa using hdn))⟩)
theorem dr_oneDo (hs : Slots n m a) (ho : ops[i]? = some o) (hr : Region.ready md ops listed = [i]) (hw : wantB m ops o = some true) (hd : o.dst = none) (h1 : Op1 P n m o w R) (hS : ∀ v w', R v w' → S w')
    (h : ∀ v w' a', R v w' → Slots n m a' → wpAnyH P md ops (NP Q) S fuel (listed.setIfInBounds i true) a' w') : wpAnyH P md ops (NP Q) S (fuel + 1) listed a w := by
  refine wpAnyH_all hr (by simp) fun j hj => ?_
  simp only [List.mem_singleton] at hj
  subst hj
  unfold wpOp
  simp only [ho, hs.wants hw, if_true]
  exact .inl (h1 a hs _ _ fun v w' hv => ⟨hS v w' hv, h v w' _ hv (hs.none hd)⟩)
theorem dr_done (hr : Region.ready md ops listed = []) (h : Q .normal a w) : wpAnyH P md ops (NP Q) S fuel listed a w := wpAnyH_done hr (NoPanic.normal h) fuel

/-! ### Code -/
theorem co_seq {x y : Code} (h : x.wp P (Exit.then (y.wp P Q) Q) a w) : (Code.seq x y).wp P Q a w := wp_seq h
theorem co_reg {id : Nat} {l : List Oper} (h : wpList P l.toArray Q l a w) : (Code.region id l.toArray false).wp P Q a w := wp_region_lit h
theorem co_then {K : Act → World → Prop} (h : K a w) : Exit.then K Q .normal a w := h
theorem co_true {c : Operand} {x y : Code} (hs : Slots n m a) (hc : ev m c = some (.bool true)) (h : x.wp P Q a w) : (Code.cond c x y).wp P Q a w := wp_cond_true (hs.ev hc) h
theorem co_false {c : Operand} {x y : Code} (hs : Slots n m a) (hc : ev m c = some (.bool false)) (h : y.wp P Q a w) : (Code.cond c x y).wp P Q a w := wp_cond_false (hs.ev hc) h
theorem co_loop {c : Code} (I : Nat → Act → World → Prop) (k : Nat) (h₀ : I k a w) (round : ∀ k a w, I k a w → c.wp P (Exit.then (fun a' w' => ∃ k', k' < k ∧ I k' a' w') Q) a w) : (Code.loop c).wp P Q a w := wp_loop_ghost I k h₀ round
theorem co_thenX {K : Act → World → Prop} {i : Nat} (h : Q (.exit i) a w) : Exit.then K Q (.exit i) a w := h
theorem co_thenR {K : Act → World → Prop} (h : Q .ret a w) : Exit.then K Q .ret a w := h
theorem co_blockN {i : Nat} (h : Q .normal a w) : Exit.inBlock i Q .normal a w := h
theorem co_blockX {i : Nat} (h : Q .normal a w) : Exit.inBlock i Q (.exit i) a w := by simpa [Exit.inBlock] using h
theorem co_blockY {i j : Nat} (hne : i ≠ j) (h : Q (.exit i) a w) : Exit.inBlock j Q (.exit i) a w := by simpa [Exit.inBlock, hne] using h
theorem co_blockR {i : Nat} (h : Q .ret a w) : Exit.inBlock i Q .ret a w := h
theorem co_cut {x y : Code} (M : Act → World → Prop) (h1 : x.wp P (Exit.then M Q) a w) (h2 : ∀ a w, M a w → y.wp P Q a w) : (Code.seq x y).wp P Q a w :=
  wp_seq (Code.wp_mono (fun e a' w' q => by cases e <;> first | exact h2 _ _ q | exact q) h1)
/-- The call begins. -/
theorem co_enter {f : FuncId} {fn : Func} {c : Code} {args : Array Value} {E : Ending → World → Prop} (hf : P.funcs[f]? = some fn) (hb : fn.body = some c) (hn : fn.ntmps = n) (hl : Nat.ble args.size n = true) (m : List (Nat × Value)) (hm : m = args.toList.zipIdx.map fun p => (p.2, p.1))
    (h : ∀ a, Slots n m a → c.wp P (bodyPost P fn E) a w) : Calls P f args w E := by
  have hl := Nat.le_of_ble_eq_true hl
  refine calls_of_wp hf hb (h _ ⟨by simp [hn]; omega, rfl, fun t v ht => ?_⟩)
  subst hm
  have hlk : ∀ (l : List Value) (k t : Nat) v, ((l.zipIdx k).map fun p => (p.2, p.1)).lookup t = some v → k ≤ t ∧ l[t - k]? = some v := by
    intro l
    induction l with
    | nil => intro k t v h; simp at h
    | cons x l ih =>
      intro k t v h
      rw [List.zipIdx_cons, List.map_cons, List.lookup_cons] at h
      by_cases e : t = k
      · subst e; simp at h; subst h; simp
      · have hb : (t == k) = false := by simpa using e
        rw [hb] at h
        obtain ⟨h1, h2⟩ := ih (k + 1) t v h
        refine ⟨by omega, ?_⟩
        rw [show t - k = (t - (k + 1)) + 1 by omega, List.getElem?_cons_succ]; exact h2
  obtain ⟨_, h2⟩ := hlk _ 0 t v ht
  simp only [Nat.sub_zero, Array.getElem?_toList] at h2
  rw [Array.getD_eq_getD_getElem?, Array.getElem?_append_left (Array.getElem?_eq_some_iff.1 h2).1, h2]; rfl
/-- The call ends. -/
theorem co_ret1 {fn : Func} {E : Ending → World → Prop} {t : Nat} {v : Value} (hs : Slots n m a) (hr : fn.results = #[.tmp t]) (ht : m.lookup t = some v) (h : E (.returned v) w) : bodyPost P fn E .ret a w := by
  have := hs.look t v ht
  exact bodyPost_ret (results_tmp hr a.tmps P w) hs.defers (by rw [this]; exact h)
theorem co_ret2 {fn : Func} {E : Ending → World → Prop} {t u : Nat} {v x : Value} (hs : Slots n m a) (hr : fn.results = #[.tmp t, .tmp u]) (ht : m.lookup t = some v) (hu : m.lookup u = some x) (h : E (.returned (.tuple #[v, x])) w) : bodyPost P fn E .ret a w := by
  have h1 := hs.look t v ht
  have h2 := hs.look u x hu
  exact bodyPost_ret (results_tmp2 hr a.tmps P w) hs.defers (by rw [h1, h2]; exact h)
theorem co_ret0n {fn : Func} {E : Ending → World → Prop} (hs : Slots n m a) (hr : fn.results = #[]) (h : E (.returned (.tuple #[])) w) : bodyPost P fn E .normal a w :=
  bodyPost_end (results_none hr a.tmps P w) hs.defers h
end
end Go.Proofs.Ytaoibbakflacoaa

/- Steps of a walk over known slots: blocks of the call's own, rows that grow, slices that came in. Conditions: none. -/
namespace Go.Proofs.Ytaoibbakflacoaa
open Go.RowKit

/-- Block N of world w holds just these cells, and may be written. -/
def Blk (w : World) (N : Nat) (T : TypeId) (cs : Array Value) : Prop := w.heap[N]? = some (.cells cs T (0, 0))
section
variable {P : Program} {n : Nat} {m : List (Nat × Value)} {w x : World} {o : Oper} {N : Nat} {T : TypeId} {cs : Array Value}
theorem Blk.lt (h : Blk w N T cs) : N < w.heap.size := (Array.getElem?_eq_some_iff.1 h).1
theorem Blk.cell (h : Blk w N T cs) {k : Nat} {v : Value} (hk : cs[k]? = some v) : w.cell? ⟨N, k, none⟩ = some v := by
  unfold World.cell?; rw [show w.heap[N]? = _ from h]; simpa using hk
theorem Blk.frozen (h : Blk w N T cs) (k : Nat) : w.frozen? ⟨N, k, none⟩ = false := by
  unfold World.frozen?; rw [show w.heap[N]? = _ from h]; simp
theorem Blk.range (h : Blk w N T cs) (k : Nat) (l : List Value) (hl : ∀ j v, l[j]? = some v → cs[k + j]? = some v) : w.rangeAt N k l := fun j v hv => h.cell (hl j v hv)
theorem Blk.all (h : Blk w N T cs) : w.rangeAt N 0 cs.toList := fun j v hv => h.cell (by simpa using hv)
theorem Blk.kept {row : Option Nat} (h : Blk w N T cs) (hg : w.grownBy x row) (hne : row ≠ some N) : Blk x N T cs := by
  unfold Blk at *; rw [hg.block N (Array.getElem?_eq_some_iff.1 h).1 (fun e => hne e.symm)]; exact h
theorem Blk.below (h : Blk w N T cs) (hb : Below w.heap.size w x) : Blk x N T cs := by
  unfold Blk at *; rw [hb.block N (Array.getElem?_eq_some_iff.1 h).1]; exact h
theorem grown_below (hg : w.grownBy x none) : Below w.heap.size w x := ⟨hg.os, hg.tape, hg.output, hg.size, fun k hk => hg.block k hk (by simp)⟩
theorem below_grown (hb : Below w.heap.size w x) : w.grownBy x none := ⟨hb.os, hb.tape, hb.output, hb.size, fun k hk _ => hb.block k hk⟩
theorem hb_new {w0 : World} (h : Below w0.heap.size w0 w) (hg : w.grownBy x none) : Below w0.heap.size w0 x := h.grown hg h.size (fun _ e => by cases e)
theorem hb_at {w0 : World} (h : Below w0.heap.size w0 w) (hg : w.grownBy x (some N)) (hN : w0.heap.size ≤ N) : Below w0.heap.size w0 x := h.grown hg h.size (fun k e => by cases e; exact hN)
theorem hb_call {w0 : World} (h : Below w0.heap.size w0 w) (hb : Below w.heap.size w x) : Below w0.heap.size w0 x := h.trans (hb.mono h.size)
theorem hb_row {w0 : World} {B : Nat} {e : TypeId} {sz k : Nat} {v : Value} {xs : List Value} (h : Below w0.heap.size w0 w) (hr : w.ownsRow B e sz v k xs) (hB : w0.heap.size ≤ B) (hg : w.grownBy x v.ownBlock) : Below w0.heap.size w0 x :=
  h.grown hg h.size (fun k e => by have := (hr.lt k e).1; omega)

theorem row_kept_new {B : Nat} {e : TypeId} {sz k : Nat} {v : Value} {xs : List Value} (h : w.ownsRow B e sz v k xs) (hg : w.grownBy x none) : x.ownsRow B e sz v k xs :=
  h.kept hg (by cases v.ownBlock <;> simp)
theorem row_kept_at {B : Nat} {e : TypeId} {sz k : Nat} {v : Value} {xs : List Value} (h : w.ownsRow B e sz v k xs) (hg : w.grownBy x (some N)) (hne : v.ownBlock ≠ some N) : x.ownsRow B e sz v k xs := h.kept hg (.inr hne)
theorem row_ne_lt {B : Nat} {e : TypeId} {sz k : Nat} {v : Value} {xs : List Value} (h : w.ownsRow B e sz v k xs) (hN : N < B) : v.ownBlock ≠ some N := fun e => by have := (h.lt N e).1; omega
/-- Rows of two types lie apart. -/
theorem row_kept_row {B B' : Nat} {e e' : TypeId} {sz sz' k k' : Nat} {v v' : Value} {xs ys : List Value} (h : w.ownsRow B e sz v k xs) (h' : w.ownsRow B' e' sz' v' k' ys) (hg : w.grownBy x v'.ownBlock) (hne : e ≠ e') : x.ownsRow B e sz v k xs := by
  refine h.kept hg ?_
  cases hv : v.ownBlock with
  | none => exact .inl rfl
  | some g =>
    refine .inr fun e1 => ?_
    rcases h.2 with ⟨rfl, _⟩ | ⟨g1, _, _, rfl, _, hg1, _⟩
    · simp [Value.ownBlock] at hv
    · rcases h'.2 with ⟨rfl, _⟩ | ⟨g2, _, _, rfl, _, hg2, _⟩
      · simp [Value.ownBlock] at e1
      · simp [Value.ownBlock] at hv e1
        subst hv
        rw [← e1, hg1] at hg2
        simp at hg2
        exact hne hg2.2
theorem blk_part (h : Blk w N T cs) (k : Nat) {l : List Value} (hl : (cs.toList.drop k).take l.length = l) : w.rangeAt N k l := fun j v hv => by
  refine h.cell ?_
  have hj := (List.getElem?_eq_some_iff.1 hv).1
  rw [← hl, List.getElem?_take, if_pos hj, List.getElem?_drop] at hv
  simpa using hv
/-- A variable, a struct, an array that is made. -/
theorem op_new {v : Nat → Value} (hok : okOps m o.op = true) (hsel : (match o.op with | .select .. => true | _ => false) = false) (hrun : (execOp (lk m) o).run P w = .ok (.value (v w.heap.size)) (w.alloc (.cells cs T))) :
    Op1 P n m o w (fun u x => ∃ N, u = v N ∧ N = w.heap.size ∧ x.heap.size = N + 1 ∧ Blk x N T cs ∧ w.grownBy x none) :=
  (op_run hok hsel hrun).mono fun u x ⟨h1, h2⟩ => by
    subst h2
    exact ⟨w.heap.size, h1, rfl, by simp, heap_alloc_new w _, World.grownBy_alloc w _ none⟩
theorem setCell_blk (h : Blk w N T cs) (k : Nat) (v : Value) : Blk (w.setCell ⟨N, k, none⟩ v) N T (cs.setIfInBounds k v) := by
  have hlt := (Array.getElem?_eq_some_iff.1 h).1
  have hx := (Array.getElem?_eq_some_iff.1 h).2
  unfold Blk World.setCell
  simp only [Array.getElem?_modify, if_true]
  rw [show w.heap[N]? = _ from h]
  simp
theorem grown_setCell (w : World) (N k : Nat) (v : Value) : w.grownBy (w.setCell ⟨N, k, none⟩ v) (some N) := ⟨rfl, rfl, rfl, by simp [World.setCell], fun j _ hj => Below.heap_setCell w _ v j (fun e => hj (by rw [e]))⟩
/-- A store of one cell into a block of the call's own. -/
theorem op_store1 {t : TypeId} {p q : Operand} {k : Nat} {v : Value} (ho : o.op = .store t p q) (hp : ev m p = some (.pointer (some ⟨N, k, none⟩))) (hq : ev m q = some v) (h1 : v.oneCell' = true) (hs : ∀ w : World, (sizeOf t).run P w = .ok 1 w)
    (hb : Blk w N T cs) (hk : Nat.blt k cs.size = true) : Op1 P n m o w (fun _ x => Blk x N T (cs.setIfInBounds k v) ∧ x.heap.size = w.heap.size ∧ w.grownBy x (some N)) := by
  intro a ha K Q hN
  have hk' : k < cs.size := by simpa using hk
  have hc : w.cell? ⟨N, k, none⟩ = some cs[k] := hb.cell (by simp [hk'])
  have hcell : v.cells = #[v] := by cases v <;> simp_all [Value.cells, Value.oneCell']
  have hrun : (Instr.storeAt t (.pointer (some ⟨N, k, none⟩)) v).run P w = .ok () (w.setCell ⟨N, k, none⟩ v) := by
    have h2 := run_storeCells_cells (P := P) N k [v] 0 w (fun j hj => by simp at hj; subst hj; simp [hc]) (fun j hj => by simpa using hb.frozen _) (by simpa using h1)
    simp only [Nat.add_zero] at h2
    simp [Instr.storeAt, Instr.sureAddr, storeVar, hcell, hs, Sem.run_bind, h2, World.setCells]
  unfold Oper.wp execOp
  simp only [ho, ha.ev hp, ha.ev hq, Sem.run_bind, hrun, Result.andThen_ok, Sem.run_pure]
  exact hN _ _ ⟨setCell_blk hb k v, by simp [World.setCell], grown_setCell w N k v⟩
theorem setCells_blk : ∀ (vs : List Value) (w : World) (cs : Array Value) (k : Nat), Blk w N T cs → k + vs.length ≤ cs.size → Blk (w.setCells N k vs) N T (cs.toList.take k ++ vs ++ cs.toList.drop (k + vs.length)).toArray
  | [], w, cs, k, h, _ => by simpa [World.setCells] using h
  | v :: r, w, cs, k, h, hl => by
    simp only [List.length_cons] at hl
    have := setCells_blk r (w.setCell ⟨N, k, none⟩ v) (cs.setIfInBounds k v) (k + 1) (setCell_blk h k v) (by simp; omega)
    rw [World.setCells]
    have e : ((cs.setIfInBounds k v).toList.take (k + 1) ++ r ++ (cs.setIfInBounds k v).toList.drop (k + 1 + r.length)) = cs.toList.take k ++ (v :: r) ++ cs.toList.drop (k + (r.length + 1)) := by
      simp only [Array.toList_setIfInBounds]
      rw [List.take_set, List.drop_set_of_lt (by omega), show k + 1 + r.length = k + (r.length + 1) by omega]
      have : (List.take (k + 1) cs.toList).set k v = cs.toList.take k ++ [v] := by
        rw [List.take_succ_eq_append_getElem (by simp; omega)]
        have hl : (List.take k cs.toList).length = k := by simp; omega
        rw [List.set_append, hl, if_neg (by omega)]
        simp
      rw [this]; simp
    rw [List.length_cons, ← e]; exact this
/-- A store of a whole value into a block of the call's own. -/
theorem op_storeN {t : TypeId} {p q : Operand} {cells : Array Value} (ho : o.op = .store t p q) (hp : ev m p = some (.pointer (some ⟨N, 0, none⟩))) (hq : ev m q = some (.agg cells)) (h1 : cells.all (·.oneCell') = true) (hi : (P.info? t).map (·.size) = some cells.size)
    (hb : Blk w N T cs) (hk : cs.size = cells.size) : Op1 P n m o w (fun _ x => Blk x N T cells ∧ x.heap.size = w.heap.size ∧ w.grownBy x (some N)) := by
  intro a ha K Q hN
  have hthere : w.there N 0 cells.size := fun j hj => ⟨by rw [hb.cell (k := 0 + j) (v := cs[j]) (by simp [hk, hj])]; rfl, hb.frozen _⟩
  refine wp_store_mid t p q ho N 0 cells (ha.ev hp) (ha.ev hq) hthere hi h1 (hN _ _ ⟨?_, ?_, ?_⟩)
  · have := setCells_blk cells.toList w cs 0 hb (by simp [hk])
    have e : (cells.toList ++ List.drop cells.size cs.toList).toArray = cells := by rw [List.drop_eq_nil_of_le (by simp [hk])]; simp
    simp only [List.take_zero, List.nil_append, Nat.zero_add, Array.length_toList, e] at this
    exact this
  · have hsz : ∀ (vs : List Value) (k : Nat) (w : World), (w.setCells N k vs).heap.size = w.heap.size := by
      intro vs
      induction vs with
      | nil => intro k w; rfl
      | cons v r ih => intro k w; rw [World.setCells, ih]; simp [World.setCell]
    exact hsz _ _ _
  · have hg : ∀ (vs : List Value) (k : Nat) (w : World), w.grownBy (w.setCells N k vs) (some N) := by
      intro vs
      induction vs with
      | nil => intro k w; exact World.grownBy.refl _ _
      | cons v r ih => intro k w; rw [World.setCells]; exact (grown_setCell w N k v).trans (ih _ _)
    exact hg _ _ _
/-- 'append(v, news..)', v a row of the call's own. -/
theorem op_append {s q : Operand} {t : TypeId} (ho : o.op = .call { callee := .builtin .append, args := #[s, q], argTypes := #[t, t] })
    (base : Nat) (e : TypeId) {z : Value} {size bytes : Nat} (ht : P.underlying t = some (.slice e)) (hi : (P.info? e).map (fun i => (i.zero, i.size, i.bytes)) = some (some z, size, bytes))
    (hzs : z.cells.size = size) (hsz : Nat.blt 0 size = true) {v : Value} {k : Nat} {xs : List Value} (hs : ev m s = some v) (hown : w.ownsRow base e size v k xs)
    {M q' c : Nat} {ws : Array Value} {T' : TypeId} (hx : ev m q = some (.slice (some ⟨M, 0, none⟩) q' c)) (hb : Blk w M T' ws) (hl : ws.size = q' * size) (h1 : ws.all (·.oneCell') = true)
    (h63 : k + q' ≤ 9223372036854775807) (hbytes : (k + q') * bytes ≤ 140737488355328) (hbase : base ≤ w.heap.size) :
    Op1 P n m o w (fun u x => x.ownsRow base e size u (k + q') (xs ++ ws.toList) ∧ w.grownBy x v.ownBlock) := by
  intro a ha K Q hN
  obtain ⟨i0, hii, hz0, hz1, hz2⟩ := info_parts hi
  refine wp_append_own w s q t ho base e i0 z size bytes ht hii hz0 hz1 hz2 hzs (by simpa using hsz) v k xs (ha.ev hs) hown ⟨M, 0, none⟩ q' c ws.toList (ha.ev hx) (by simpa using hl) ?_ ?_ (by unfold maxLen; exact h63) hbytes hbase (fun v' w' h2 h3 _ => hN _ _ ⟨h2, h3⟩)
  · intro j u hu
    rw [Addr.add_lit, Nat.zero_add]
    exact hb.cell (by simpa using hu)
  · intro u hu
    exact (Array.all_eq_true_iff_forall_mem.1 h1) u (by simpa using hu)

/-! ### A region that draws its order begins -/
section
variable {Q : Exit → Act → World → Prop} {a : Act}
theorem drew_grown (w : World) : w.grownBy w.drew none := ⟨rfl, rfl, rfl, Nat.le_refl _, fun _ _ _ => rfl⟩
theorem dr_eq {id : Nat} {l : List Oper} (hm : P.follows .mixedOrders = true) (h : ∀ wd, w.grownBy wd none → wpAnyH P .any l.toArray (NP Q) (fun x => x = wd) l.length (Array.replicate l.length false) a wd) : (Code.region id l.toArray true).wp P Q a w :=
  dr_start (S := fun x => x = w.drew) hm rfl (h _ (drew_grown w))
theorem dr_gen {id : Nat} {l : List Oper} (S : World → Prop) (hm : P.follows .mixedOrders = true) (hS : ∀ wd, w.grownBy wd none → S wd) (h : ∀ wd, w.grownBy wd none → wpAnyH P .any l.toArray (NP Q) S l.length (Array.replicate l.length false) a wd) : (Code.region id l.toArray true).wp P Q a w :=
  dr_start hm (hS _ (drew_grown w)) (h _ (drew_grown w))
end

/-! ### Slices that came in: the value is whatever it is, its place is told by two functions -/
def blkOf : Value → Nat
  | .slice (some a) _ _ => a.block
  | _ => 0
def offOf : Value → Nat
  | .slice (some a) _ _ => a.off
  | _ => 0
variable {α : Type} {enc : α → List Value} {sz : Nat} {v : Value} {l : List α}
theorem sl_len (h : SliceOf enc sz w v l) : l.length ≤ 9223372036854775807 := by obtain ⟨_, _, _, h1, h2, _⟩ := h; omega
theorem sl_at (h : SliceOf enc sz w v l) {i : Nat} {y : α} (hy : l[i]? = some y) : w.rangeAt (blkOf v) (offOf v + i * sz) (enc y) := by
  obtain ⟨ao, cap, rfl, _, _, _, hc⟩ := h
  obtain ⟨hi, e⟩ := List.getElem?_eq_some_iff.1 hy
  obtain ⟨b, off, rfl, hr⟩ := hc i hi
  rw [← e]; exact hr
/-- 'len(v)' -/
theorem rn_len {t : TypeId} {q : Operand} (ho : o.op = .call { callee := .builtin .len, args := #[q], argTypes := #[t] }) (hq : ev m q = some v) {e : TypeId} (ht : P.underlying t = some (.slice e)) (h : SliceOf enc sz w v l) : (execOp (lk m) o).run P w = .ok (.value (.int .i64 (l.length : Nat))) w := by
  obtain ⟨ao, cap, rfl, _, _, _, hc⟩ := h
  unfold execOp
  simp [ho, resolve, invoke, builtin, Sem.run_bind, lk_ev hq, Builtin.len_, goInt, run_underlying ht]
theorem rn_lenOwn {t : TypeId} {q : Operand} {base : Nat} {e : TypeId} {k : Nat} {xs : List Value} (ho : o.op = .call { callee := .builtin .len, args := #[q], argTypes := #[t] }) (hq : ev m q = some v) {e' : TypeId} (ht : P.underlying t = some (.slice e')) (h : w.ownsRow base e sz v k xs) : (execOp (lk m) o).run P w = .ok (.value (.int .i64 (k : Nat))) w := by
  rcases h.2 with ⟨rfl, rfl⟩ | ⟨g, cap, cur, rfl, _⟩
  · unfold execOp
    simp [ho, resolve, invoke, builtin, Sem.run_bind, lk_ev hq, Builtin.len_, goInt, run_underlying ht]
  · unfold execOp
    simp [ho, resolve, invoke, builtin, Sem.run_bind, lk_ev hq, Builtin.len_, goInt, run_underlying ht]
theorem rn_lenStr {t : TypeId} {q : Operand} {s : ByteArray} (ho : o.op = .call { callee := .builtin .len, args := #[q], argTypes := #[t] }) (hq : ev m q = some (.string s)) (ht : P.underlying t = some .string) : (execOp (lk m) o).run P w = .ok (.value (.int .i64 (s.size : Nat))) w := by
  unfold execOp
  simp [ho, resolve, invoke, builtin, Sem.run_bind, lk_ev hq, Builtin.len_, goInt, run_underlying ht]
/-- 'v[i]' as an address -/
theorem rn_index {t e : TypeId} {q r : Operand} {k : IntKind} {i : Int} {j : Nat} (ho : o.op = .indexAddr t q r) (hq : ev m q = some v) (hr : ev m r = some (.int k i)) (ht : P.underlying t = some (.slice e)) (hs : ∀ w : World, (sizeOf e).run P w = .ok sz w)
    (h : SliceOf enc sz w v l) (hij : i = (j : Nat)) (hj : j < l.length) : (execOp (lk m) o).run P w = .ok (.value (.pointer (some ⟨blkOf v, offOf v + j * sz, none⟩))) w := by
  subst hij
  obtain ⟨ao, cap, rfl, _, _, _, hc⟩ := h
  obtain ⟨b, off, rfl, _⟩ := hc j hj
  have hrun : (Instr.indexAt t (.slice (some ⟨b, off, none⟩) l.length cap) (.int k j)).run P w = .ok (.pointer (some ⟨b, off + j * sz, none⟩)) w := by
    have h0 : (0 : Int) ≤ (j : Nat) ∧ ((j : Nat) : Int) < (l.length : Nat) := by omega
    simp [Instr.indexAt, asIntOf, run_underlying ht, Sem.run_bind, h0, hs, hj, Addr.add_lit]
  unfold execOp
  simp only [ho, lk_ev hq, lk_ev hr, Sem.run_bind, hrun, Result.andThen_ok, Sem.run_pure]
  rfl
/-- A slice of another type, or nil, that is read as nothing. -/
theorem sl_nil (w : World) : SliceOf enc sz w (.slice none 0 0) ([] : List α) := SliceOf.nil _ _ _
end
end Go.Proofs.Ytaoibbakflacoaa

/- Slices that are cut, and appended from. Conditions: none. -/
namespace Go.Proofs.Ytaoibbakflacoaa
open Go.RowKit Go.PlainAid

theorem SliceOf.sliced {α : Type} {enc : α → List Value} {sz : Nat} {w : World} {ao : Option Addr} {n cap : Nat} {l : List α} (h : SliceOf enc sz w (.slice ao n cap) l) (lo hi : Nat) (h1 : lo ≤ hi) (h2 : hi ≤ l.length) :
    SliceOf enc sz w (sliced ao lo hi cap sz) ((l.take hi).drop lo) := by
  obtain ⟨ao', cap', hv, h1', h2', h3, h4⟩ := h
  injection hv with e1 e2 e3
  subst e1 e2 e3
  have hl : ((l.take hi).drop lo).length = hi - lo := by rw [List.length_drop, List.length_take]; omega
  unfold Go.sliced
  cases ao with
  | none =>
    obtain ⟨e0, e1⟩ := h3 rfl
    subst e1
    have : hi = 0 := by omega
    have : lo = 0 := by omega
    subst lo hi
    exact ⟨none, 0, by simp, by simp, by omega, fun _ => ⟨by simp, rfl⟩, fun j hj => absurd hj (by simp)⟩
  | some a =>
    by_cases hc : cap = lo
    · subst hc
      have : hi = cap := by omega
      subst this
      refine ⟨some a, 0, by rw [hl]; simp, by rw [hl]; omega, by omega, fun h => (by cases h), fun j hj => absurd hj (by rw [hl]; omega)⟩
    · refine ⟨some (a.add (lo * sz)), cap - lo, by rw [hl, if_neg hc]; rfl, by rw [hl]; omega, by omega, fun h => (by cases h), fun j hj => ?_⟩
      rw [hl] at hj
      obtain ⟨b, off, e, hr⟩ := h4 (lo + j) (by omega)
      cases e
      refine ⟨b, off + lo * sz, by rw [Addr.add_lit], ?_⟩
      rw [show off + lo * sz + j * sz = off + (lo + j) * sz by rw [Nat.add_mul]; omega, List.getElem_drop, List.getElem_take]
      exact hr
/-- 's[:k]' -/
theorem run_upto {P : Program} {T : TypeId} {sz : Nat} (ht : P.underlying T = some (.slice (P.elem T))) (hs : ∀ w, (sizeOf (P.elem T)).run P w = .ok sz w) (ao : Option Addr) (n cap k : Nat) (hk : k ≤ cap) (w : World) :
    (Instr.slice T (.slice ao n cap) none (some (.int .i64 (k : Int))) none).run P w = .ok (sliced ao 0 k cap sz) w := by
  rw [run_slice_h w T ao n cap ht .i64 k (by omega) (by omega), hs]; rfl
/-- 's[k:]' -/
theorem run_from {P : Program} {T : TypeId} {sz : Nat} (ht : P.underlying T = some (.slice (P.elem T))) (hs : ∀ w, (sizeOf (P.elem T)).run P w = .ok sz w) (ao : Option Addr) (n cap k : Nat) (hk : k ≤ n) (w : World) :
    (Instr.slice T (.slice ao n cap) (some (.int .i64 (k : Int))) none none).run P w = .ok (sliced ao k n cap sz) w := by
  rw [run_slice_l w T ao n cap ht .i64 k (by omega) (by omega), hs]; rfl
theorem wp_append_src {P : Program} {w : World} {o : Oper} {a : Act} {K : Act → World → Prop} {Q : Exit → Act → World → Prop} (s x : Operand) (t : TypeId)
    (ho : o.op = .call { callee := .builtin .append, args := #[s, x], argTypes := #[t, t] })
    (base : Nat) (e : TypeId) (i : TypeInfo) (z : Value) (size bytes : Nat) (ht : P.underlying t = some (.slice e)) (hi : P.info? e = some i) (hz : i.zero = some z)
    (hsize : i.size = size) (hby : i.bytes = bytes) (hzs : z.cells.size = size) (hsz : 0 < size)
    (v : Value) (n : Nat) (xs : List Value) (hs : a.eval s = v) (hown : w.ownsRow base e size v n xs)
    {α : Type} (enc : α → List Value) (l : List α) (vs : Value) (hx : a.eval x = vs) (hsl : SliceOf enc size w vs l) (hen : ∀ y ∈ l, (enc y).length = size ∧ ∀ u ∈ enc y, u.oneCell' = true)
    (h63 : n + l.length ≤ maxLen) (hbytes : (n + l.length) * bytes ≤ 140737488355328) (hbase : base ≤ w.heap.size)
    (h : ∀ v' w', w'.ownsRow base e size v' (n + l.length) (xs ++ l.flatMap enc) → w.grownBy w' v.ownBlock → K (a.put o.dst v') w') : o.wp P a w K Q := by
  obtain ⟨ao, cap, rfl, _, _, hnil, hcell⟩ := hsl
  have hl := flat_len l (fun y hy => (hen y hy).1)
  cases ao with
  | none =>
    obtain ⟨e0, e1⟩ := hnil rfl
    obtain rfl : l = [] := List.eq_nil_of_length_eq_zero e0
    subst e1
    have hrun := run_append_owned_none (P := P) (w := w) base t o.type e i size ht hi v n xs hown
    have hx' : a.eval x = .slice none 0 0 := by simpa using hx
    unfold Oper.wp
    simp [execOp, ho, resolve, invoke, builtin, hs, hx', hrun, Result.andThen]
    exact h v w (by simpa using hown) (World.grownBy.refl _ _)
  | some ad =>
    refine wp_append_own _ s x t ho base e i z size bytes ht hi hz hsize hby hzs hsz v n xs hs hown ad l.length cap (l.flatMap enc) hx hl ?_ ?_ h63 hbytes hbase (fun v' w' h1 h2 _ => h v' w' h1 h2)
    · intro j u hu
      have hj : j < l.length * size := by rw [← hl]; exact (List.getElem?_eq_some_iff.1 hu).1
      have hq : j / size < l.length := Nat.div_lt_of_lt_mul (by rw [Nat.mul_comm]; exact hj)
      obtain ⟨b, off, hb, hr⟩ := hcell _ hq
      cases hb
      rw [Addr.add_lit]
      have hdm : j / size * size + j % size = j := by rw [Nat.mul_comm]; exact Nat.div_add_mod j size
      have hr' := hr (j % size) u
      rw [Nat.add_assoc, hdm] at hr'
      refine hr' ?_
      rw [← flat_at l (j / size) (j % size) hq (fun y hy => (hen y hy).1) (Nat.mod_lt _ hsz), hdm]; exact hu
    · intro u hu
      obtain ⟨y, hy, huy⟩ := List.mem_flatMap.1 hu
      exact (hen y hy).2 u huy
theorem step_append_src {P : Program} {w : World} {ops : Array Oper} {o : Oper} {a : Act} {K : Act → World → Prop} {Q : Exit → Act → World → Prop} {E : Prop} (hgd : o.guard = none) (s x : Operand) (t : TypeId)
    (ho : o.op = .call { callee := .builtin .append, args := #[s, x], argTypes := #[t, t] })
    (base : Nat) (e : TypeId) (i : TypeInfo) (z : Value) (size bytes : Nat) (ht : P.underlying t = some (.slice e)) (hi : P.info? e = some i) (hz : i.zero = some z)
    (hsize : i.size = size) (hby : i.bytes = bytes) (hzs : z.cells.size = size) (hsz : 0 < size)
    (v : Value) (n : Nat) (xs : List Value) (hs : a.eval s = v) (hown : w.ownsRow base e size v n xs)
    {α : Type} (enc : α → List Value) (l : List α) (vs : Value) (hx : a.eval x = vs) (hsl : SliceOf enc size w vs l) (hen : ∀ y ∈ l, (enc y).length = size ∧ ∀ u ∈ enc y, u.oneCell' = true)
    (h63 : n + l.length ≤ maxLen) (hbytes : (n + l.length) * bytes ≤ 140737488355328) (hbase : base ≤ w.heap.size)
    (h : ∀ v' w', w'.ownsRow base e size v' (n + l.length) (xs ++ l.flatMap enc) → w.grownBy w' v.ownBlock → K (a.put o.dst v') w') :
    if Region.wanted o (yielded ops a.tmps) = true then Oper.wp P o a w K Q else E := by
  have hw : Region.wanted o (yielded ops a.tmps) = true := by simp [Region.wanted, hgd]
  rw [if_pos hw]
  exact wp_append_src s x t ho base e i z size bytes ht hi hz hsize hby hzs hsz v n xs hs hown enc l vs hx hsl hen h63 hbytes hbase h
theorem row_empty (w : World) (T : TypeId) (sz B base : Nat) (h : w.heap.size = B) (hb : base ≤ B) : (w.alloc (.cells #[] T)).ownsRow base T sz (.slice (some ⟨B, 0, none⟩) 0 0) 0 [] := by
  subst h
  exact row_built w #[] T sz 0 base hb (by simp) (by decide)

theorem alloc_at (w : World) (o : Obj) : (w.alloc o).heap[w.heap.size]? = some o := by
  show (w.heap.push o)[w.heap.size]? = _
  simp
theorem alloc_at' (w : World) (o : Obj) (B : Nat) (h : w.heap.size = B) : (w.alloc o).heap[B]? = some o := by
  subst h; exact alloc_at w o
theorem own_block {w : World} {B : Nat} {e : TypeId} {k : Nat} {v : Value} {n : Nat} {xs : List Value} (h : w.ownsRow B e k v n xs) : ∀ g, v.ownBlock = some g → B ≤ g := by
  intro g hg
  rcases h.2 with ⟨rfl, _⟩ | ⟨g', cap, cur, rfl, hg', _⟩
  · simp [Value.ownBlock] at hg
  · simp [Value.ownBlock] at hg; omega
end Go.Proofs.Ytaoibbakflacoaa

/- Steps of a walk over known slots: slices cut, appended from, rows as lists, closures, structs compared. Conditions: none. -/
namespace Go.Proofs.Ytaoibbakflacoaa
open Go.RowKit

section
variable {P : Program} {n : Nat} {m : List (Nat × Value)} {w x : World} {o : Oper} {N : Nat} {T : TypeId} {cs : Array Value} {α : Type} {enc : α → List Value} {sz : Nat} {v : Value} {l : List α}

/-- A slice of a slice. -/
def subV (v : Value) (lo hi sz : Nat) : Value :=
  match v with
  | .slice ao _ cap => sliced ao lo hi cap sz
  | x => x
theorem sl_sub (h : SliceOf enc sz w v l) (lo hi : Nat) (h1 : lo ≤ hi) (h2 : hi ≤ l.length) : SliceOf enc sz w (subV v lo hi sz) ((l.take hi).drop lo) := by
  obtain ⟨ao, cap, rfl, h3, h4, h5, h6⟩ := h
  exact SliceOf.sliced ⟨ao, cap, rfl, h3, h4, h5, h6⟩ lo hi h1 h2
theorem sl_take (h : SliceOf enc sz w v l) (k : Nat) (h2 : k ≤ l.length) : SliceOf enc sz w (subV v 0 k sz) (l.take k) := sl_sub h 0 k (Nat.zero_le _) h2
theorem rn_sliceTo {t e : TypeId} {q r : Operand} {k : IntKind} {i : Int} {j : Nat} (ho : o.op = .slice t q none (some r) none) (hq : ev m q = some v) (hr : ev m r = some (.int k i)) (ht : P.underlying t = some (.slice e)) (hs : ∀ w : World, (sizeOf e).run P w = .ok sz w)
    (h : SliceOf enc sz w v l) (hij : i = (j : Nat)) (hj : j ≤ l.length) : (execOp (lk m) o).run P w = .ok (.value (subV v 0 j sz)) w := by
  subst hij
  obtain ⟨ao, cap, rfl, h3, h4, h5, h6⟩ := h
  have he : P.elem t = e := by simp [Program.elem, ht]
  have hrun : (Instr.slice t (.slice ao l.length cap) none (some (.int k j)) none).run P w = .ok (sliced ao 0 j cap sz) w := by
    rw [run_slice_h w t ao l.length cap (by rw [he]; exact ht) k j (by omega) (by omega), he, hs]; rfl
  unfold execOp
  simp only [ho, Option.map_some, Option.map_none, lk_ev hq, lk_ev hr, Instr.sliceAt, Sem.run_bind, run_underlying ht, Result.andThen_ok, hrun, Sem.run_pure]
  rfl
/-- 'append(v, src..)', v a row of the call's own, src any slice that is read. -/
theorem op_appendSrc {s q : Operand} {t : TypeId} (ho : o.op = .call { callee := .builtin .append, args := #[s, q], argTypes := #[t, t] })
    (base : Nat) (e : TypeId) {z : Value} {size bytes : Nat} (ht : P.underlying t = some (.slice e)) (hi : (P.info? e).map (fun i => (i.zero, i.size, i.bytes)) = some (some z, size, bytes))
    (hzs : z.cells.size = size) (hsz : Nat.blt 0 size = true) {u : Value} {k : Nat} {xs : List Value} (hs : ev m s = some u) (hown : w.ownsRow base e size u k xs)
    (hx : ev m q = some v) (hsl : SliceOf enc size w v l) (hen : ∀ y ∈ l, (enc y).length = size ∧ ∀ u ∈ enc y, u.oneCell' = true)
    (h63 : k + l.length ≤ 9223372036854775807) (hbytes : (k + l.length) * bytes ≤ 140737488355328) (hbase : base ≤ w.heap.size) :
    Op1 P n m o w (fun r x => x.ownsRow base e size r (k + l.length) (xs ++ l.flatMap enc) ∧ w.grownBy x u.ownBlock) := by
  intro a ha K Q hN
  obtain ⟨i0, hii, hz0, hz1, hz2⟩ := info_parts hi
  exact wp_append_src s q t ho base e i0 z size bytes ht hii hz0 hz1 hz2 hzs (by simpa using hsz) u k xs (ha.ev hs) hown enc l v (ha.ev hx) hsl hen (by unfold maxLen; exact h63) hbytes hbase (fun v' w' h2 h3 => hN _ _ ⟨h2, h3⟩)
theorem row_of_blk {base : Nat} (h : Blk w N T #[]) (hb : base ≤ N) (sz : Nat) : w.ownsRow base T sz (.slice (some ⟨N, 0, none⟩) 0 0) 0 [] :=
  ⟨by simp, .inr ⟨N, 0, #[], rfl, hb, h, Nat.le_refl _, by decide, by simp, by simp⟩⟩
theorem row_of_blkL {base : Nat} (h : Blk w N T #[]) (hb : base ≤ N) (sz : Nat) (enc : α → List Value) : w.ownsRow base T sz (.slice (some ⟨N, 0, none⟩) 0 0) ([] : List α).length (([] : List α).flatMap enc) := row_of_blk h hb sz
theorem row_nilL (w : World) (base : Nat) (T : TypeId) (sz : Nat) (enc : α → List Value) : w.ownsRow base T sz (.slice none 0 0) ([] : List α).length (([] : List α).flatMap enc) := World.ownsRow_nil _ _ _ _
theorem row_push {base : Nat} {u : Value} {y : α} {k : Nat} {xs : List Value} (h : w.ownsRow base T sz u (l.length + k) (l.flatMap enc ++ xs)) (hk : k = 1) (he : enc y = xs) : w.ownsRow base T sz u (l ++ [y]).length ((l ++ [y]).flatMap enc) := by
  subst hk he; simpa using h
theorem row_app {base : Nat} {u : Value} {l' : List α} (h : w.ownsRow base T sz u (l.length + l'.length) (l.flatMap enc ++ l'.flatMap enc)) : w.ownsRow base T sz u (l ++ l').length ((l ++ l').flatMap enc) := by
  simpa using h
theorem row_lows {base base' : Nat} {u : Value} {k : Nat} {xs : List Value} (h : w.ownsRow base T sz u k xs) (hb : base' ≤ base) : w.ownsRow base' T sz u k xs := by
  refine ⟨h.1, ?_⟩
  rcases h.2 with h2 | ⟨g, c, r, e, hg, h3⟩
  · exact .inl h2
  · exact .inr ⟨g, c, r, e, by omega, h3⟩
theorem row_eq {base : Nat} {u : Value} {l' : List α} (h : w.ownsRow base T sz u l.length (l.flatMap enc)) (e : l = l') : w.ownsRow base T sz u l'.length (l'.flatMap enc) := by subst e; exact h
theorem row_sl {base : Nat} (h : w.ownsRow base T sz v l.length (l.flatMap enc)) (hsz : ∀ y : α, (enc y).length = sz) : SliceOf enc sz w v l := SliceOf.own h (fun y _ => hsz y)
theorem row_fresh {base : Nat} {k : Nat} {xs : List Value} (h : w.ownsRow base T sz v k xs) (hN : N = w.heap.size) : v.ownBlock ≠ some N := fun e => by have := (h.lt N e).2; omega
theorem rn_neS {T T' : TypeId} {q r : Operand} {a b : Array Value} {c : Bool} (ho : o.op = .binOp .neq T q r T') (hq : ev m q = some (.agg a)) (hr : ev m r = some (.agg b)) (hg : P.eqGuardType P.depth T = false) (h : (binOp .eql T (.agg a) (.agg b)).run P w = .ok (.bool c) w) : (execOp (lk m) o).run P w = .ok (.value (.bool !c)) w := by
  unfold execOp
  have h0 : (eqGuard .neq T q r (.agg a) (.agg b)).run P w = .ok () w := by
    simp [eqGuard, Sem.run_bind, run_program, hg]
  have h1 : (binOp .neq T (.agg a) (.agg b)).run P w = .ok (.bool !c) w := by
    have h2 : (Op.equal T (.agg a) (.agg b)).run P w = .ok c w := by
      cases h3 : (Op.equal T (.agg a) (.agg b)).run P w with
      | ok y w1 =>
        simp only [binOp, Sem.run_bind, h3, Result.andThen_ok, Sem.run_pure, Result.ok.injEq, Value.bool.injEq] at h
        rw [h.1, h.2]
      | halt y w1 => simp [binOp, Sem.run_bind, h3] at h
    simp only [binOp, Sem.run_bind, h2, Result.andThen_ok, Sem.run_pure]
  simp only [ho, lk_ev hq, lk_ev hr, Sem.run_bind, h0, h1, Result.andThen_ok, Sem.run_pure]
theorem rn_rem {T T' : TypeId} {q r : Operand} {k : IntKind} {i j : Int} (ho : o.op = .binOp .rem T q r T') (hq : ev m q = some (.int k i)) (hr : ev m r = some (.int k j)) (hi : 0 ≤ i) (hj : 0 < j) : (execOp (lk m) o).run P w = .ok (.value (.int k (i % j))) w := by
  unfold execOp
  have hne : ¬ j = 0 := by omega
  have he : i.tmod j = i % j := Int.tmod_eq_emod_of_nonneg hi
  simp only [ho, lk_ev hq, lk_ev hr]
  simp [eqGuard, binOp, Op.intDiv, hne, he]
/-- A struct and a slot as results. -/
theorem co_retC1 {Q : Exit → Act → World → Prop} {a : Act} {fn : Func} {E : Ending → World → Prop} {t u : Nat} {T' : TypeId} {y : Value} {d : TypeDesc} (hs : Slots n m a) (hr : fn.results = #[.cell t T', .tmp u]) (ht : m.lookup t = some (.pointer (some ⟨N, 0, none⟩))) (hu : m.lookup u = some y) (hb : Blk w N T cs)
    (hd : P.underlying T' = some d) (hrow : d.isRow = true) (hi : (P.info? T').map (·.size) = some cs.size) (h : E (.returned (.tuple #[.agg cs, y])) w) : bodyPost P fn E .ret a w := by
  have h1 := hs.look t _ ht
  have h2 := hs.look u _ hu
  have hl := run_loadVar_mid w N 0 T' cs.toList d hb.all hd hrow (by simpa using hi)
  have hrun : (results fn a.tmps).run P w = .ok (.tuple #[.agg cs, y]) w := by
    have h1' : (a.tmps[t]?).getD undef = .pointer (some ⟨N, 0, none⟩) := by rw [← h1, Array.getD_eq_getD_getElem?]
    have h2' : (a.tmps[u]?).getD undef = y := by rw [← h2, Array.getD_eq_getD_getElem?]
    simp [results, hr, h1', h2', asAddr, hl, Sem.run_bind]
  exact bodyPost_ret hrun hs.defers h
/-- A struct as the result. -/
theorem co_retC {Q : Exit → Act → World → Prop} {a : Act} {fn : Func} {E : Ending → World → Prop} {t : Nat} {T' : TypeId} {d : TypeDesc} (hs : Slots n m a) (hr : fn.results = #[.cell t T']) (ht : m.lookup t = some (.pointer (some ⟨N, 0, none⟩))) (hb : Blk w N T cs)
    (hd : P.underlying T' = some d) (hrow : d.isRow = true) (hi : (P.info? T').map (·.size) = some cs.size) (h : E (.returned (.agg cs)) w) : bodyPost P fn E .ret a w := by
  have h1 := hs.look t _ ht
  have hl := run_loadVar_mid w N 0 T' cs.toList d hb.all hd hrow (by simpa using hi)
  have hrun : (results fn a.tmps).run P w = .ok (.agg cs) w := by
    have h1' : (a.tmps[t]?).getD undef = .pointer (some ⟨N, 0, none⟩) := by rw [← h1, Array.getD_eq_getD_getElem?]
    simp [results, hr, h1', asAddr, hl, Sem.run_bind]
  exact bodyPost_ret hrun hs.defers h
end
end Go.Proofs.Ytaoibbakflacoaa

/- Drawn regions in which several operations may come up: each way for itself. Conditions: none. -/
namespace Go.Proofs.Ytaoibbakflacoaa
open Go.RowKit

section
variable {P : Program} {n : Nat} {m : List (Nat × Value)} {w : World} {o : Oper} {ops : Array Oper} {Q : Exit → Act → World → Prop} {R : Value → World → Prop} {md : Region.Mode} {S : World → Prop} {fuel i d : Nat} {listed : Array Bool} {a : Act}
def AllW (P : Program) (md : Region.Mode) (ops : Array Oper) (Q : Exit → Act → World → Prop) (S : World → Prop) (fuel : Nat) (listed : Array Bool) (a : Act) (w : World) : List Nat → Prop
  | [] => True
  | i :: r => wpOp P ops (NP Q) i (fun a' w' => S w' ∧ wpAnyH P md ops (NP Q) S fuel (listed.setIfInBounds i true) a' w') a w ∧ AllW P md ops Q S fuel listed a w r
theorem AllW.all : ∀ (rs : List Nat), AllW P md ops Q S fuel listed a w rs → ∀ i ∈ rs, wpOp P ops (NP Q) i (fun a' w' => S w' ∧ wpAnyH P md ops (NP Q) S fuel (listed.setIfInBounds i true) a' w') a w
  | [], _, _, h => by cases h
  | i :: r, h, j, hj => by
    rcases List.mem_cons.1 hj with rfl | hj
    · exact h.1
    · exact AllW.all r h.2 j hj
/-- Several may come up. -/
theorem dr_many (rs : List Nat) (hr : Region.ready md ops listed = rs) (hne : rs ≠ []) (h : AllW P md ops Q S fuel listed a w rs) : wpAnyH P md ops (NP Q) S (fuel + 1) listed a w := wpAnyH_all hr hne (AllW.all rs h)
theorem dr_op (hs : Slots n m a) (ho : ops[i]? = some o) (hw : wantB m ops o = some true) (hd : o.dst = some d) (hdn : Nat.blt d n = true) (h1 : Op1 P n m o w R) (hS : ∀ v w', R v w' → S w')
    (h : ∀ v w' a', R v w' → Slots n ((d, v) :: m) a' → wpAnyH P md ops (NP Q) S fuel (listed.setIfInBounds i true) a' w') : wpOp P ops (NP Q) i (fun a' w' => S w' ∧ wpAnyH P md ops (NP Q) S fuel (listed.setIfInBounds i true) a' w') a w := by
  unfold wpOp
  simp only [ho, hs.wants hw, if_true]
  exact .inl (h1 a hs _ _ fun v w' hv => ⟨hS v w' hv, h v w' _ hv (by rw [hd]; exact hs.put (by simpa using hdn))⟩)
/-- One that yields v and leaves the world as it is. -/
theorem dr_opVal {v : Value} (hs : Slots n m a) (ho : ops[i]? = some o) (hw : wantB m ops o = some true) (hd : o.dst = some d) (hdn : Nat.blt d n = true) (hok : okOps m o.op = true) (hsel : (match o.op with | .select .. => true | _ => false) = false) (hrun : (execOp (lk m) o).run P w = .ok (.value v) w) (hS : S w)
    (h : ∀ a', Slots n ((d, v) :: m) a' → wpAnyH P md ops (NP Q) S fuel (listed.setIfInBounds i true) a' w) : wpOp P ops (NP Q) i (fun a' w' => S w' ∧ wpAnyH P md ops (NP Q) S fuel (listed.setIfInBounds i true) a' w') a w :=
  dr_op hs ho hw hd hdn (op_run hok hsel hrun) (fun _ _ ⟨_, h2⟩ => by subst h2; exact hS) (fun _ _ a' ⟨h1, h2⟩ hs' => by subst h1 h2; exact h a' hs')
end
theorem row_one {w : World} {B sz k : Nat} {T : TypeId} {v : Value} {xs : List Value} (h : w.ownsRow B T sz v k xs) : v.oneCell' = true := by
  rcases h.2 with ⟨rfl, _⟩ | ⟨g, cap, cur, rfl, _⟩ <;> rfl
theorem sl_one {α : Type} {enc : α → List Value} {sz : Nat} {w : World} {v : Value} {l : List α} (h : SliceOf enc sz w v l) : v.oneCell' = true := by
  obtain ⟨ao, cap, rfl, _⟩ := h; rfl
theorem all_nil : ([] : List Value).toArray.all (·.oneCell') = true := by simp
theorem all_cons {u : Value} {l : List Value} (h : u.oneCell' = true) (hl : l.toArray.all (·.oneCell') = true) : (u :: l).toArray.all (·.oneCell') = true := by
  simp only [List.all_toArray, List.all_cons, Bool.and_eq_true] at hl ⊢
  exact ⟨h, hl⟩
/-- A block of known cells, as a row of its own. -/
theorem row_of_cells {α : Type} {enc : α → List Value} {sz base N : Nat} {w : World} {T : TypeId} {cs : Array Value} (l : List α) (h : Blk w N T cs) (hb : base ≤ N) (hl : cs.toList = l.flatMap enc) (hs : cs.size = l.length * sz) (hm : l.length ≤ maxLen) :
    w.ownsRow base T sz (.slice (some ⟨N, 0, none⟩) l.length l.length) l.length (l.flatMap enc) := by
  have hcs : cs.toList.length = l.length * sz := by simpa using hs
  refine ⟨by rw [← hl, hcs], .inr ⟨N, l.length, cs, rfl, hb, h, Nat.le_refl _, hm, hs, ?_⟩⟩
  rw [← hl, List.take_of_length_le (by omega)]
/-- A pointer. -/
abbrev pt (b o : Nat) : Value := .pointer (some ⟨b, o, none⟩)
/-! ### Short forms: what follows by computing alone stands behind. -/
section
variable {P : Program} {n : Nat} {m : List (Nat × Value)} {w : World} {o : Oper} {ops : Array Oper} {rest : List Oper} {Q : Exit → Act → World → Prop} {R : Value → World → Prop} {md : Region.Mode} {S : World → Prop} {fuel d : Nat} {listed : Array Bool} {a : Act} {v : Value}
theorem pk (hs : Slots n m a) (hd : o.dst = some d) (hrun : (execOp (lk m) o).run P w = .ok (.value v) w) (h : ∀ a', Slots n ((d, v) :: m) a' → wpList P ops Q rest a' w)
    (hg : wantB m ops o = some true := by rfl) (hdn : Nat.blt d n = true := by rfl) (hok : okOps m o.op = true := by kernel_rfl) (hsel : (match o.op with | .select .. => true | _ => false) = false := by kernel_rfl) : wpList P ops Q (o :: rest) a w := pl_val hs hg hd hdn hok hsel hrun h
theorem pk0 (hs : Slots n m a) (hd : o.dst = some d) (h : ∀ a', Slots n ((d, v) :: m) a' → wpList P ops Q rest a' w)
    (hg : wantB m ops o = some true := by rfl) (hdn : Nat.blt d n = true := by rfl) (hok : okOps m o.op = true := by kernel_rfl) (hsel : (match o.op with | .select .. => true | _ => false) = false := by kernel_rfl) (hrun : (execOp (lk m) o).run P w = .ok (.value v) w := by kernel_rfl) : wpList P ops Q (o :: rest) a w := pl_val hs hg hd hdn hok hsel hrun h
theorem pw (hs : Slots n m a) (hd : o.dst = some d) (h1 : Op1 P n m o w R) (h : ∀ v w' a', R v w' → Slots n ((d, v) :: m) a' → wpList P ops Q rest a' w') (hg : wantB m ops o = some true := by rfl) (hdn : Nat.blt d n = true := by rfl) : wpList P ops Q (o :: rest) a w := pl_want hs hg hd hdn h1 h
theorem pwD (hs : Slots n m a) (hd : o.dst = none) (h1 : Op1 P n m o w R) (h : ∀ v w' a', R v w' → Slots n m a' → wpList P ops Q rest a' w') (hg : wantB m ops o = some true := by rfl) : wpList P ops Q (o :: rest) a w := pl_doW hs hg hd h1 h
theorem psk (hs : Slots n m a) (hd : o.dst = some d) (h : ∀ a', Slots n ((d, undef) :: m) a' → wpList P ops Q rest a' w) (hg : wantB m ops o = some false := by rfl) (hdn : Nat.blt d n = true := by rfl) : wpList P ops Q (o :: rest) a w := pl_skip hs hg hd hdn h
theorem dk (i : Nat) (hs : Slots n m a) (ho : ops[i]? = some o) (hd : o.dst = some d) (hS : S w) (hrun : ∀ w, S w → (execOp (lk m) o).run P w = .ok (.value v) w) (h : ∀ a', Slots n ((d, v) :: m) a' → wpAnyH P md ops (NP Q) S fuel (listed.setIfInBounds i true) a' w)
    (hsel : Region.noSelect ops = true := by kernel_rfl) (hf : Region.free md ops listed i = true := by kernel_rfl) (hr : (Region.ready md ops listed).contains i = true := by kernel_rfl) (hw : wantB m ops o = some true := by rfl) (hdn : Nat.blt d n = true := by rfl) (hok : okOps m o.op = true := by kernel_rfl) : wpAnyH P md ops (NP Q) S (fuel + 1) listed a w := dr_take hs ho hsel hf hr hw hd hdn hS hok hrun h
theorem dk0 (i : Nat) (hs : Slots n m a) (ho : ops[i]? = some o) (hd : o.dst = some d) (hS : S w) (h : ∀ a', Slots n ((d, v) :: m) a' → wpAnyH P md ops (NP Q) S fuel (listed.setIfInBounds i true) a' w)
    (hsel : Region.noSelect ops = true := by kernel_rfl) (hf : Region.free md ops listed i = true := by kernel_rfl) (hr : (Region.ready md ops listed).contains i = true := by kernel_rfl) (hw : wantB m ops o = some true := by rfl) (hdn : Nat.blt d n = true := by rfl) (hok : okOps m o.op = true := by kernel_rfl) (hrun : ∀ w, S w → (execOp (lk m) o).run P w = .ok (.value v) w := by intro _ _; kernel_rfl) : wpAnyH P md ops (NP Q) S (fuel + 1) listed a w := dr_take hs ho hsel hf hr hw hd hdn hS hok hrun h
theorem d1 (i : Nat) (hs : Slots n m a) (ho : ops[i]? = some o) (hd : o.dst = some d) (h1 : Op1 P n m o w R) (hS : ∀ v w', R v w' → S w') (h : ∀ v w' a', R v w' → Slots n ((d, v) :: m) a' → wpAnyH P md ops (NP Q) S fuel (listed.setIfInBounds i true) a' w')
    (hr : Region.ready md ops listed = [i] := by kernel_rfl) (hw : wantB m ops o = some true := by rfl) (hdn : Nat.blt d n = true := by rfl) : wpAnyH P md ops (NP Q) S (fuel + 1) listed a w := dr_one hs ho hr hw hd hdn h1 hS h
theorem d1D (i : Nat) (hs : Slots n m a) (ho : ops[i]? = some o) (hd : o.dst = none) (h1 : Op1 P n m o w R) (hS : ∀ v w', R v w' → S w') (h : ∀ v w' a', R v w' → Slots n m a' → wpAnyH P md ops (NP Q) S fuel (listed.setIfInBounds i true) a' w')
    (hr : Region.ready md ops listed = [i] := by kernel_rfl) (hw : wantB m ops o = some true := by rfl) : wpAnyH P md ops (NP Q) S (fuel + 1) listed a w := dr_oneDo hs ho hr hw hd h1 hS h
end
end Go.Proofs.Ytaoibbakflacoaa

/- Steps of a walk over known slots: rows and blocks of other types lie apart; three results, the first one a struct in a cell. Conditions: none. -/
namespace Go.Proofs.Ytaoibbakflacoaa
open Go.RowKit
section
variable {P : Program} {n : Nat} {m : List (Nat × Value)} {w x : World} {N : Nat} {T : TypeId} {cs : Array Value}
theorem own_neT {B sz k : Nat} {e : TypeId} {v : Value} {xs : List Value} (h : w.ownsRow B e sz v k xs) (hb : Blk w N T cs) (hT : e ≠ T) : v.ownBlock ≠ some N := fun e1 => by
  rcases h.2 with ⟨rfl, _⟩ | ⟨g, c, cur, rfl, hg, hh, _⟩
  · simp [Value.ownBlock] at e1
  · simp only [Value.ownBlock, Option.some.injEq] at e1
    subst e1
    have := hh.symm.trans hb
    simp only [Option.some.injEq, Obj.cells.injEq] at this
    exact hT this.2.1
theorem row_form {B sz k : Nat} {e : TypeId} {v : Value} {xs : List Value} (h : w.ownsRow B e sz v k xs) : ∃ a n c, v = .slice a n c := by
  rcases h.2 with ⟨rfl, _⟩ | ⟨g, c, cur, rfl, _⟩
  · exact ⟨_, _, _, rfl⟩
  · exact ⟨_, _, _, rfl⟩
end
end Go.Proofs.Ytaoibbakflacoaa

/- Maps that the call makes: a list of keys and values; lookups, stores, deletes, lengths. Conditions: none. -/
namespace Go.Proofs.Ytaoibbakflacoaa
open Go.RowKit

section
variable {K : Type} [DecidableEq K]
/-- The place and the value of a key. -/
def lookK (a : K) : List (K × Value) → Nat → Option (Nat × Value)
  | [], _ => none
  | p :: r, i => if a = p.1 then some (i, p.2) else lookK a r (i + 1)
def getK (l : List (K × Value)) (a : K) : Option Value := (lookK a l 0).map (·.2)
theorem lookK_shift (a : K) : ∀ (l : List (K × Value)) (i j : Nat), lookK a l (i + j) = (lookK a l j).map fun p => (i + p.1, p.2)
  | [], _, _ => rfl
  | p :: r, i, j => by
    unfold lookK
    split
    · rfl
    · rw [Nat.add_assoc]; exact lookK_shift a r i (j + 1)
theorem getK_cons (p : K × Value) (l : List (K × Value)) (b : K) : getK (p :: l) b = if b = p.1 then some p.2 else getK l b := by
  simp only [getK, lookK]
  split
  · rfl
  · rw [show (0 : Nat) + 1 = 1 + 0 from rfl, lookK_shift]; cases lookK b l 0 <;> rfl
@[simp] theorem getK_nil (b : K) : getK ([] : List (K × Value)) b = none := rfl
end

section
variable {K : Type}
variable {P : Program} {n : Nat} {m : List (Nat × Value)} {w x : World} {o : Oper} {B : Nat} {l : List (K × Value)} {kv : K → Value} {kt e t : TypeId} {q r : Operand} {a : K}
/-- Block B is a map that holds just these entries. -/
def MapB (kv : K → Value) (w : World) (B : Nat) (l : List (K × Value)) : Prop :=
  ∃ es clock, w.heap[B]? = some (.map es clock) ∧ es.toList.map (fun e => (e.key, e.val)) = l.map (fun p => (kv p.1, p.2)) ∧ (l.map (·.1)).Nodup ∧ (es.toList.map (·.born)).Nodup ∧ ∀ e ∈ es.toList, e.born < clock
theorem MapB.lt (h : MapB kv w B l) : B < w.heap.size := by obtain ⟨_, _, h, _⟩ := h; exact (Array.getElem?_eq_some_iff.1 h).1
theorem MapB.keys (h : MapB kv w B l) : (l.map (·.1)).Nodup := by obtain ⟨_, _, _, _, h, _⟩ := h; exact h
theorem MapB.kept {row : Option Nat} (h : MapB kv w B l) (hg : w.grownBy x row) (hne : row ≠ some B) : MapB kv x B l := by
  obtain ⟨es, c, h1, h2⟩ := h
  exact ⟨es, c, by rw [hg.block B (Array.getElem?_eq_some_iff.1 h1).1 (fun e => hne e.symm)]; exact h1, h2⟩
theorem MapB.below (h : MapB kv w B l) (hb : Below w.heap.size w x) : MapB kv x B l := h.kept (below_grown hb) (by simp)
end

section
variable {K : Type} [DecidableEq K]
variable {P : Program} {n : Nat} {m : List (Nat × Value)} {w x : World} {o : Oper} {B : Nat} {l : List (K × Value)} {kv : K → Value} {kt e t : TypeId} {q r : Operand} {a : K}
end
end Go.Proofs.Ytaoibbakflacoaa

/- Maps that the call makes, told by a function that says what each key has (a default for those that are not there). Conditions: none. -/
namespace Go.Proofs.Ytaoibbakflacoaa
open Go.RowKit

section
variable {K V : Type} {P : Program} {n : Nat} {m : List (Nat × Value)} {w x : World} {o : Oper} {B : Nat} {kv : K → Value} {kt e t : TypeId} {q r : Operand} {a : K} {enc : V → Value} {z : V} {g : K → V}

/-- Block B is a map; a key a has g a (z, if it is not there). -/
def MapG [DecidableEq K] (kv : K → Value) (enc : V → Value) (z : V) (w : World) (B : Nat) (g : K → V) : Prop := ∃ l, MapB kv w B l ∧ ∀ a, (getK l a).getD (enc z) = enc (g a)
variable [DecidableEq K]
theorem MapG.lt (h : MapG kv enc z w B g) : B < w.heap.size := by obtain ⟨l, h, _⟩ := h; exact h.lt
theorem MapG.kept {row : Option Nat} (h : MapG kv enc z w B g) (hg : w.grownBy x row) (hne : row ≠ some B) : MapG kv enc z x B g := by
  obtain ⟨l, h1, h2⟩ := h; exact ⟨l, h1.kept hg hne, h2⟩
theorem MapG.below (h : MapG kv enc z w B g) (hb : Below w.heap.size w x) : MapG kv enc z x B g := h.kept (below_grown hb) (by simp)
theorem MapG.row {B' : Nat} {T : TypeId} {sz k : Nat} {v : Value} {xs : List Value} (h : MapG kv enc z w B g) (hr : w.ownsRow B' T sz v k xs) : v.ownBlock ≠ some B := by
  intro e1
  obtain ⟨l, ⟨es, c, h1, _⟩, _⟩ := h
  rcases hr.2 with ⟨rfl, _⟩ | ⟨g1, _, _, rfl, _, hg1, _⟩
  · simp [Value.ownBlock] at e1
  · simp [Value.ownBlock] at e1
    subst e1; rw [h1] at hg1; cases hg1
end
end Go.Proofs.Ytaoibbakflacoaa

/- Ranges over maps that the call made: what is still to come, whichever comes next. Conditions: none. -/
namespace Go.Proofs.Ytaoibbakflacoaa
open Go.RowKit Go.ChangeMaps

section
variable {K : Type} {P : Program} {n : Nat} {m : List (Nat × Value)} {w x : World} {o : Oper} {B r : Nat} {l left : List (K × Value)} {kv : K → Value} {kt e t : TypeId} {q : Operand}
/-- Block r ranges over the map at B; left is still to come. -/
def IterB (kv : K → Value) (w : World) (r B : Nat) (left : List (K × Value)) : Prop :=
  ∃ es clock since seen c0, w.heap[B]? = some (.map es clock) ∧ w.heap[r]? = some (.mapIter (some B) since seen c0) ∧ since ≤ c0 ∧ c0 = clock ∧ (∀ e ∈ es.toList, e.born < since) ∧ (es.toList.map (·.born)).Nodup ∧
    (es.toList.filter fun e => !seen.contains e.born).map (fun e => (e.key, e.val)) = left.map (fun p => (kv p.1, p.2))
theorem IterB.lt (h : IterB kv w r B left) : r < w.heap.size := by obtain ⟨_, _, _, _, _, _, h, _⟩ := h; exact (Array.getElem?_eq_some_iff.1 h).1
theorem IterB.kept {row : Option Nat} (h : IterB kv w r B left) (hg : w.grownBy x row) (h1 : row ≠ some B) (h2 : row ≠ some r) : IterB kv x r B left := by
  obtain ⟨es, c, s, sn, c0, a1, a2, a3⟩ := h
  exact ⟨es, c, s, sn, c0, by rw [hg.block B (Array.getElem?_eq_some_iff.1 a1).1 (fun e => h1 e.symm)]; exact a1, by rw [hg.block r (Array.getElem?_eq_some_iff.1 a2).1 (fun e => h2 e.symm)]; exact a2, a3⟩
theorem IterB.row {B' : Nat} {T : TypeId} {sz k : Nat} {v : Value} {xs : List Value} (h : IterB kv w r B left) (hr : w.ownsRow B' T sz v k xs) : v.ownBlock ≠ some B ∧ v.ownBlock ≠ some r := by
  obtain ⟨es, c, s, sn, c0, a1, a2, _⟩ := h
  rcases hr.2 with ⟨rfl, _⟩ | ⟨g1, _, _, rfl, _, hg1, _⟩
  · simp [Value.ownBlock]
  · constructor
    · intro e1
      simp [Value.ownBlock] at e1
      subst e1; rw [a1] at hg1; cases hg1
    · intro e1
      simp [Value.ownBlock] at e1
      subst e1; rw [a2] at hg1; cases hg1
end
end Go.Proofs.Ytaoibbakflacoaa

/- Maps that the call made, told by a function: what a key has, if anything; and ranges over them. Conditions: none. -/
namespace Go.Proofs.Ytaoibbakflacoaa
open Go.RowKit

section
variable {K V : Type} [DecidableEq K] {P : Program} {n : Nat} {m : List (Nat × Value)} {w x : World} {o : Oper} {B r c : Nat} {kv : K → Value} {enc : V → Value} {g : K → Option V} {kt e t : TypeId} {q s : Operand} {a : K} {v : V} {left : List (K × V)}
/-- Block B is a map of at most c entries; a key a has g a. -/
def MapO (kv : K → Value) (enc : V → Value) (w : World) (B : Nat) (g : K → Option V) (c : Nat) : Prop := ∃ l, MapB kv w B l ∧ (∀ a, getK l a = (g a).map enc) ∧ l.length ≤ c
theorem MapO.lt (h : MapO kv enc w B g c) : B < w.heap.size := by obtain ⟨l, h, _⟩ := h; exact h.lt
theorem MapO.kept {row : Option Nat} (h : MapO kv enc w B g c) (hg : w.grownBy x row) (hne : row ≠ some B) : MapO kv enc x B g c := by
  obtain ⟨l, h1, h2⟩ := h; exact ⟨l, h1.kept hg hne, h2⟩
theorem MapO.below (h : MapO kv enc w B g c) (hb : Below w.heap.size w x) : MapO kv enc x B g c := h.kept (below_grown hb) (by simp)
theorem MapO.row {B' : Nat} {T : TypeId} {sz k : Nat} {u : Value} {xs : List Value} (h : MapO kv enc w B g c) (hr : w.ownsRow B' T sz u k xs) : u.ownBlock ≠ some B := by
  intro e1
  obtain ⟨l, ⟨es, c', h1, _⟩, _⟩ := h
  rcases hr.2 with ⟨rfl, _⟩ | ⟨g1, _, _, rfl, _, hg1, _⟩
  · simp [Value.ownBlock] at e1
  · simp [Value.ownBlock] at e1
    subst e1; rw [h1] at hg1; cases hg1
/-- lt holds just what g has. -/
def Full (g : K → Option V) (lt : List (K × V)) : Prop := (lt.map (·.1)).Nodup ∧ ∀ a v, g a = some v ↔ (a, v) ∈ lt
theorem getK_mem : ∀ (l : List (K × Value)) (a : K) (u : Value), (l.map (·.1)).Nodup → (getK l a = some u ↔ (a, u) ∈ l)
  | [], a, u, _ => by simp
  | p :: r, a, u, h => by
    rw [List.map_cons, List.nodup_cons] at h
    have ih := getK_mem r a u h.2
    rw [getK_cons]
    by_cases e1 : a = p.1
    · rw [if_pos e1]
      constructor
      · intro h1
        have : p.2 = u := Option.some.inj h1
        exact List.mem_cons.2 (.inl (Prod.ext e1 this.symm))
      · intro h1
        rcases List.mem_cons.1 h1 with h2 | h2
        · rw [← h2]
        · exact absurd (e1 ▸ List.mem_map_of_mem (f := (·.1)) h2) h.1
    · rw [if_neg e1, ih]
      constructor
      · exact fun h1 => List.mem_cons_of_mem _ h1
      · intro h1
        rcases List.mem_cons.1 h1 with h2 | h2
        · exact absurd (by rw [← h2]) e1
        · exact h2
omit [DecidableEq K] in
theorem typed_list (g : K → Option V) (enc : V → Value) : ∀ (l : List (K × Value)), (∀ p ∈ l, (g p.1).map enc = some p.2) → ∃ lt : List (K × V), l = lt.map (fun p => (p.1, enc p.2)) ∧ ∀ p ∈ lt, g p.1 = some p.2
  | [], _ => ⟨[], rfl, by simp⟩
  | p :: r, h => by
    obtain ⟨lt, h1, h2⟩ := typed_list g enc r (fun y hy => h y (List.mem_cons_of_mem _ hy))
    have hp := h p (by simp)
    cases hg : g p.1 with
    | none => rw [hg] at hp; cases hp
    | some v =>
      rw [hg] at hp
      have hv : enc v = p.2 := Option.some.inj hp
      refine ⟨(p.1, v) :: lt, by rw [List.map_cons, ← h1, hv], fun y hy => ?_⟩
      rcases List.mem_cons.1 hy with rfl | hy
      · exact hg
      · exact h2 y hy
theorem MapO.list (h : MapO kv enc w B g c) : ∃ lt : List (K × V), MapB kv w B (lt.map fun p => (p.1, enc p.2)) ∧ Full g lt ∧ lt.length ≤ c := by
  obtain ⟨l, h1, h2, h3⟩ := h
  have hn := h1.keys
  obtain ⟨lt, e1, e2⟩ := typed_list g enc l (fun p hp => by rw [← h2]; exact (getK_mem l p.1 p.2 hn).2 hp)
  subst e1
  have hn' : (lt.map (·.1)).Nodup := by rw [List.map_map] at hn; exact hn
  refine ⟨lt, h1, ⟨hn', fun a v => ⟨fun hg => ?_, fun hm => e2 _ hm⟩⟩, by simpa using h3⟩
  have h4 := h2 a
  rw [hg] at h4
  have h5 := (getK_mem _ a (enc v) hn).1 h4
  obtain ⟨p, hp, hq⟩ := List.mem_map.1 h5
  have e3 : p.1 = a := (Prod.mk.inj hq).1
  have e4 := e2 p hp
  rw [e3, hg] at e4
  have : v = p.2 := Option.some.inj e4
  rw [← e3, this]; exact hp
/-- A range over it, what is still to come told as keys and values. -/
def IterO (kv : K → Value) (enc : V → Value) (w : World) (r B : Nat) (left : List (K × V)) : Prop := IterB kv w r B (left.map fun p => (p.1, enc p.2))
omit [DecidableEq K] in
theorem IterO.lt (h : IterO kv enc w r B left) : r < w.heap.size := IterB.lt h
omit [DecidableEq K] in
theorem IterO.kept {row : Option Nat} (h : IterO kv enc w r B left) (hg : w.grownBy x row) (h1 : row ≠ some B) (h2 : row ≠ some r) : IterO kv enc x r B left := IterB.kept h hg h1 h2
omit [DecidableEq K] in
theorem IterO.row {B' : Nat} {T : TypeId} {sz k : Nat} {u : Value} {xs : List Value} (h : IterO kv enc w r B left) (hr : w.ownsRow B' T sz u k xs) : u.ownBlock ≠ some B ∧ u.ownBlock ≠ some r := IterB.row h hr
end
section
variable {P : Program} {n : Nat} {m : List (Nat × Value)} {w : World} {o : Oper}
end
end Go.Proofs.Ytaoibbakflacoaa

/- A world that is as another was, but for some blocks. Conditions: none. -/
namespace Go.Proofs.Ytaoibbakflacoaa
open Go.RowKit

/-- What was there is as it was, but for the blocks that S tells. -/
structure But (S : Nat → Prop) (w w' : World) : Prop where
  os : w'.os = w.os
  tape : w'.tape = w.tape
  output : w'.output = w.output
  size : w.heap.size ≤ w'.heap.size
  block : ∀ k, k < w.heap.size → ¬ S k → w'.heap[k]? = w.heap[k]?

theorem But.refl (S : Nat → Prop) (w : World) : But S w w := ⟨rfl, rfl, rfl, Nat.le_refl _, fun _ _ _ => rfl⟩
theorem But.trans {S : Nat → Prop} {a b c : World} (h : But S a b) (k : But S b c) : But S a c :=
  ⟨k.os.trans h.os, k.tape.trans h.tape, k.output.trans h.output, Nat.le_trans h.size k.size, fun i hi hs => (k.block i (Nat.lt_of_lt_of_le hi h.size) hs).trans (h.block i hi hs)⟩
theorem But.mono {S S' : Nat → Prop} {w w' : World} (h : But S w w') (hs : ∀ k, k < w.heap.size → S k → S' k) : But S' w w' :=
  ⟨h.os, h.tape, h.output, h.size, fun k hk hn => h.block k hk (fun h1 => hn (hs k hk h1))⟩
theorem But.of_below {S : Nat → Prop} {w w' : World} (h : Below w.heap.size w w') : But S w w' := ⟨h.os, h.tape, h.output, h.size, fun k hk _ => h.block k hk⟩
theorem But.below {S : Nat → Prop} {w w' : World} {B : Nat} (h : But S w w') (hB : B ≤ w.heap.size) (hs : ∀ k, k < w.heap.size → S k → B ≤ k) : Below B w w' :=
  ⟨h.os, h.tape, h.output, h.size, fun k hk => h.block k (by omega) (fun h1 => by have := hs k (by omega) h1; omega)⟩
/-- Two steps, the second one over blocks that may be new. -/
theorem But.trans' {S S' : Nat → Prop} {a b c : World} (h : But S a b) (k : But S' b c) (hs : ∀ i, i < a.heap.size → S' i → S i) : But S a c :=
  ⟨k.os.trans h.os, k.tape.trans h.tape, k.output.trans h.output, Nat.le_trans h.size k.size, fun i hi hn => (k.block i (Nat.lt_of_lt_of_le hi h.size) (fun h1 => hn (hs i hi h1))).trans (h.block i hi hn)⟩
/-- From below B on: what turns are blocks from B on. -/
theorem below_but {S : Nat → Prop} {B : Nat} {a b c : World} (h : Below B a b) (k : But S b c) (hB : B ≤ b.heap.size) (hs : ∀ i, i < b.heap.size → S i → B ≤ i) : Below B a c := h.trans (k.below hB hs)
theorem But.alloc {S : Nat → Prop} {a w : World} (h : But S a w) (o : Obj) : But S a (w.alloc o) :=
  h.trans ⟨rfl, rfl, rfl, by simp, fun k hk _ => Below.heap_alloc _ _ _ hk⟩
theorem But.drew {S : Nat → Prop} {a w : World} (h : But S a w) : But S a w.drew := ⟨h.os, h.tape, h.output, h.size, h.block⟩
theorem But.draws {S : Nat → Prop} {a w : World} (h : But S a w) (n : Nat) : But S a (w.drewN n) := ⟨h.os, h.tape, h.output, h.size, h.block⟩
theorem But.setCell {S : Nat → Prop} {a w : World} (h : But S a w) {p : Addr} (hp : p.block < a.heap.size → S p.block) (u : Value) : But S a (w.setCell p u) :=
  h.trans' (S' := fun k => k = p.block) ⟨rfl, rfl, rfl, by simp [World.setCell], fun k _ hn => Below.heap_setCell _ _ _ _ hn⟩ (fun i hi e => by subst e; exact hp hi)
theorem But.cell {S : Nat → Prop} {w w' : World} (h : But S w w') {a : Addr} {v : Value} (hs : ¬ S a.block) (hc : w.cell? a = some v) : w'.cell? a = some v := by
  rw [World.cell?_of_block (w := w) (h.block _ (World.block_lt_of_cell? w a hc) hs)]; exact hc
theorem But.frozen {S : Nat → Prop} {w w' : World} (h : But S w w') {a : Addr} (hl : a.block < w.heap.size) (hs : ¬ S a.block) : w'.frozen? a = w.frozen? a := World.frozen?_of_block (w := w) (h.block _ hl hs)
/-- A store into one block. -/
theorem But.store {a w : World} {b : Nat} (h : But (fun x => x = b) a w) (o : Nat) (u : Value) : But (fun x => x = b) a (w.setCell ⟨b, o, none⟩ u) :=
  h.setCell (p := ⟨b, o, none⟩) (fun _ => rfl) u
end Go.Proofs.Ytaoibbakflacoaa

/- 'append(row, text...)' in a region that draws its order. Conditions: none. -/
namespace Go.Proofs.Ytaoibbakflacoaa
open Go.RowKit

theorem row_low {w : World} {B B' : Nat} {e : TypeId} {k : Nat} {v : Value} {n : Nat} {xs : List Value} (h : w.ownsRow B e k v n xs) (hB : B' ≤ B) : w.ownsRow B' e k v n xs := by
  obtain ⟨h1, h2⟩ := h
  refine ⟨h1, ?_⟩
  rcases h2 with h2 | ⟨g, cap, cur, hv, hg, r⟩
  · exact Or.inl h2
  · exact Or.inr ⟨g, cap, cur, hv, Nat.le_trans hB hg, r⟩
end Go.Proofs.Ytaoibbakflacoaa

/- Steps of a walk over an object's own parts: effects upon a set of blocks, appends that tell where the row went, bytes, maps looked up, rows and maps cleared. Conditions: none. -/
namespace Go.Proofs.Ytaoibbakflacoaa
open Go.RowKit

section
variable {P : Program} {n : Nat} {m : List (Nat × Value)} {w x w0 : World} {o : Oper} {N : Nat} {T : TypeId} {cs : Array Value} {S : Nat → Prop} {v u : Value} {k : Nat}
theorem grown_butU {row : Option Nat} (hg : w.grownBy x row) : But (fun k => row = some k) w x := ⟨hg.os, hg.tape, hg.output, hg.size, fun k hk hn => hg.block k hk (fun e => hn e.symm)⟩
/-- Where a row lies: in S, or it was made since a world of n blocks. -/
def InS (S : Nat → Prop) (n : Nat) (v : Value) : Prop := ∀ k, v.ownBlock = some k → S k ∨ n ≤ k
theorem row_kept_ap {w x : World} {B B' : Nat} {e e' : TypeId} {sz sz' k k' : Nat} {v v' : Value} {xs ys : List Value} (h : w.ownsRow B e sz v k xs) (h' : w.ownsRow B' e' sz' v' k' ys) (hu : ∀ i, v.ownBlock = some i → i < B') (hg : w.grownBy x v'.ownBlock) : x.ownsRow B e sz v k xs := by
  refine h.kept hg ?_
  cases hv : v.ownBlock with
  | none => exact .inl rfl
  | some i =>
    refine .inr (fun e1 => ?_)
    have h1 := (h'.lt i e1.symm).1
    have h2 := hu i hv
    omega
/-- The row stayed in its block, or went into a new one. -/
def Went (w : World) (v u : Value) : Prop := u.ownBlock = v.ownBlock ∨ ∀ k, u.ownBlock = some k → w.heap.size ≤ k
theorem InS.went (h : InS S k v) (hf : Went w v u) (hn : k ≤ w.heap.size) : InS S k u := fun i hi => by
  rcases hf with e | e
  · exact h i (e ▸ hi)
  · exact .inr (Nat.le_trans hn (e i hi))
theorem InS.nil : InS S k (.slice none 0 0) := fun i hi => by simp [Value.ownBlock] at hi
theorem InS.of (h : ∀ i, v.ownBlock = some i → S i) : InS S k v := fun i hi => .inl (h i hi)
/-- What S grows to. -/
def grow' (S : Nat → Prop) (a b : Nat) : Nat → Prop := fun q => S q ∨ (a ≤ q ∧ q < b)
theorem InS.fin {e : TypeId} {sz q B : Nat} {xs : List Value} (h : InS S k v) (hr : w.ownsRow B e sz v q xs) : ∀ i, v.ownBlock = some i → grow' S k w.heap.size i := fun i hi => by
  rcases h i hi with h1 | h1
  · exact .inl h1
  · exact .inr ⟨h1, (hr.lt i hi).2⟩

theorem run_append_went {P : Program} (w : World) (base : Nat) (t ty e : TypeId) (i : TypeInfo) (z : Value) (size bytes : Nat) (ht : P.underlying t = some (.slice e)) (hi : P.info? e = some i) (hz : i.zero = some z)
    (hsize : i.size = size) (hby : i.bytes = bytes) (hzs : z.cells.size = size) (hsz : 0 < size) (v : Value) (n : Nat) (xs : List Value) (hown : w.ownsRow base e size v n xs)
    (a : Addr) (m c : Nat) (news : List Value) (hl : news.length = m * size) (hnews : ∀ j u, news[j]? = some u → w.cell? (a.add j) = some u) (h1 : ∀ u ∈ news, u.oneCell' = true)
    (h63 : n + m ≤ maxLen) (hbytes : (n + m) * bytes ≤ 140737488355328) (hbase : base ≤ w.heap.size) :
    ∃ v' w', (Builtin.append_ #[t, t] ty #[v, .slice (some a) m c]).run P w = .ok v' w' ∧ w'.ownsRow base e size v' (n + m) (xs ++ news) ∧ w.grownBy w' v.ownBlock ∧ Went w v v' := by
  have hsmall : n + m ≤ 9223372036854775807 := by simp only [maxLen] at h63; omega
  rcases hown.2 with ⟨rfl, rfl⟩ | ⟨g, cap, cur, rfl, hbg, hg, hnc, hcm, hcs, htake⟩
  · have h0 : w.ownsRow w.heap.size e size (.slice none 0 0) 0 xs := ⟨hown.1, Or.inl ⟨rfl, rfl⟩⟩
    obtain ⟨v', w', hr, h2, h3, _⟩ := run_append_own (P := P) w w.heap.size t ty e i z size bytes ht hi hz hsize hby hzs hsz _ 0 xs h0 a m c news hl hnews h1 h63 hbytes (Nat.le_refl _)
    exact ⟨v', w', hr, row_low h2 hbase, h3, Or.inr (fun k hk => (h2.lt k hk).1)⟩
  · obtain ⟨v', w', hr, h2, h3, _⟩ := run_append_own (P := P) w base t ty e i z size bytes ht hi hz hsize hby hzs hsz _ n xs hown a m c news hl hnews h1 h63 hbytes hbase
    refine ⟨v', w', hr, h2, h3, ?_⟩
    by_cases hroom : n + m ≤ cap
    · have hfit : n * i.size + news.length ≤ cur.size := by
        rw [hl, hcs, hsize, ← Nat.add_mul]; exact Nat.mul_le_mul_right _ hroom
      have hr2 := run_append_room (P := P) w t ty e i ht hi g n cap cur hg a m c news (by rw [hsize]; exact hl) hnews h1 hroom hfit
      rw [hr] at hr2
      simp only [Result.ok.injEq] at hr2
      rw [hr2.1]
      exact Or.inl rfl
    · have holds : ∀ j u, xs[j]? = some u → w.cell? ((⟨g, 0, none⟩ : Addr).add j) = some u := hown.cells (g := g) rfl
      have hr2 := run_append_grow (P := P) w t ty e i z ht hi hz ⟨g, 0, none⟩ n cap xs (by rw [hsize]; exact hown.1) holds a m c news (by rw [hsize]; exact hl) hnews (by omega) (by omega) (by rw [hby]; exact growslice_fits (by omega) hbytes)
      rw [hr] at hr2
      simp only [Result.ok.injEq] at hr2
      rw [hr2.1]
      exact Or.inr (fun k hk => by simp [Value.ownBlock] at hk; omega)
theorem op_appendF {s q : Operand} {t : TypeId} (ho : o.op = .call { callee := .builtin .append, args := #[s, q], argTypes := #[t, t] })
    (base : Nat) (e : TypeId) {z : Value} {size bytes : Nat} (ht : P.underlying t = some (.slice e)) (hi : (P.info? e).map (fun i => (i.zero, i.size, i.bytes)) = some (some z, size, bytes))
    (hzs : z.cells.size = size) (hsz : Nat.blt 0 size = true) {k : Nat} {xs : List Value} (hs : ev m s = some v) (hown : w.ownsRow base e size v k xs)
    {M q' c : Nat} {ws : Array Value} {T' : TypeId} (hx : ev m q = some (.slice (some ⟨M, 0, none⟩) q' c)) (hb : Blk w M T' ws) (hl : ws.size = q' * size) (h1 : ws.all (·.oneCell') = true)
    (h63 : k + q' ≤ 9223372036854775807) (hbytes : (k + q') * bytes ≤ 140737488355328) (hbase : base ≤ w.heap.size) :
    Op1 P n m o w (fun u x => x.ownsRow base e size u (k + q') (xs ++ ws.toList) ∧ Went w v u ∧ w.grownBy x v.ownBlock) := by
  intro a ha K Q hN
  obtain ⟨i0, hii, hz0, hz1, hz2⟩ := info_parts hi
  obtain ⟨v', w', hr, h2, h3, h4⟩ := run_append_went (P := P) w base t o.type e i0 z size bytes ht hii hz0 hz1 hz2 hzs (by simpa using hsz) v k xs hown ⟨M, 0, none⟩ q' c ws.toList (by simpa using hl)
    (fun j u hu => by rw [Addr.add_lit, Nat.zero_add]; exact hb.cell (by simpa using hu)) (fun u hu => (Array.all_eq_true_iff_forall_mem.1 h1) u (by simpa using hu)) (by unfold maxLen; exact h63) hbytes hbase
  unfold Oper.wp execOp
  simp only [ho, resolve, invoke, builtin, Sem.run_bind, Sem.run_pure, Result.andThen_ok, List.map_toArray, List.map_cons, List.map_nil, ha.ev hs, ha.ev hx, hr]
  exact hN _ _ ⟨h2, h4, h3⟩
end
section
variable {K V : Type} [DecidableEq K] {P : Program} {n : Nat} {m : List (Nat × Value)} {w x : World} {o : Oper} {B r c : Nat} {kv : K → Value} {enc : V → Value} {g : K → Option V} {kt e t : TypeId} {q s : Operand} {a : K} {v : V}
end
section
variable {P : Program} {n : Nat} {m : List (Nat × Value)} {w : World} {o : Oper} {v : Value} {α : Type} {enc : α → List Value} {l : List α} {sz base : Nat} {T : TypeId}
/-- What is left of a row that is cut. -/
theorem row_cut (h : w.ownsRow base T sz v l.length (l.flatMap enc)) (hsz : ∀ y, (enc y).length = sz) (k : Nat) (hk : k ≤ l.length) (h0 : v ≠ .slice none 0 0 ∨ True) : w.ownsRow base T sz (subV v 0 k sz) (l.take k).length ((l.take k).flatMap enc) := by
  have hlt : (l.take k).length = k := by rw [List.length_take]; omega
  have hfl : ((l.take k).flatMap enc).length = k * sz := by rw [flat_len _ (fun y _ => hsz y), hlt]
  refine ⟨by rw [hfl, hlt], ?_⟩
  rcases h.2 with ⟨rfl, h1⟩ | ⟨g, cap, cur, rfl, hg, hh, hnc, hcm, hcs, htk⟩
  · obtain rfl : l = [] := List.eq_nil_of_length_eq_zero h1
    obtain rfl : k = 0 := by simpa using hk
    exact .inl ⟨by simp [subV, sliced], rfl⟩
  · refine .inr ⟨g, cap, cur, by rw [hlt]; simp [subV, sliced, Addr.add], hg, hh, by rw [hlt]; omega, hcm, hcs, ?_⟩
    rw [hlt]
    have h2 : cur.toList.take (k * sz) = (cur.toList.take (l.length * sz)).take (k * sz) := by
      rw [List.take_take]; congr 1; rw [Nat.min_eq_left (Nat.mul_le_mul_right _ hk)]
    rw [h2, htk]
    have h3 : l.flatMap enc = (l.take k).flatMap enc ++ (l.drop k).flatMap enc := by rw [← List.flatMap_append, List.take_append_drop]
    rw [h3, List.take_append_of_le_length (by rw [hfl]; exact Nat.le_refl _), List.take_of_length_le (by rw [hfl]; exact Nat.le_refl _)]
end
end Go.Proofs.Ytaoibbakflacoaa

/- Package ops: Check of both. Conditions: none. -/
namespace Go.Proofs.Ytaoibbakflacoaa
open Go.RowKit Go.PlainAid
set_option linter.unusedVariables false


abbrev OpT := ByteArray × ByteArray × Bool
def opE (o : OpT) : List Value := [.string o.1, .string o.2.1, .bool o.2.2]
theorem opE_len (o : OpT) : (opE o).length = 3 := rfl
/-- What a key's check answers; an operation's; those of all, each key above the one ahead of it. -/
def keyC (k : ByteArray) : Int := if ((k.size : Nat) : Int) < 1 ∨ ((k.size : Nat) : Int) > 8 then 10 else 0
theorem takeO_at {α : Type} {l : List α} {i : Nat} {y : α} (h : l[i]? = some y) : l.take (i + 1) = l.take i ++ [y] := by
  rw [List.take_add_one, h]; rfl
set_option maxRecDepth 100000 in
theorem rKey_any (k : ByteArray) (w : World)  :
    Calls Try.prog 15 #[.string k] w fun e w' => e = .returned (.int .i64 (keyC k)) ∧ Below w.heap.size w w' := by
 have hB0 := Below.refl w.heap.size w
 refine co_enter (n := 11) Try.func15 rfl rfl rfl [(0, .string k)] rfl (fun a h0 => ?_)
 refine co_seq ?_
 refine co_reg ?_
 refine pk0 (v := .int .i64 0) h0 rfl fun a1 h1 => ?_; clear h0
 refine pl_nil ?_
 refine co_then ?_
 refine co_seq ?_
 refine co_seq ?_
 refine co_reg ?_
 refine pk0 (v := .string k) h1 rfl fun a2 h2 => ?_; clear h1
 refine pk (v := .int .i64 ((k.size : Nat) : Int)) h2 rfl (rn_lenStr rfl rfl Try.underlying9) fun a3 h3 => ?_; clear h2
 refine pk0 (v := .bool (decide (((k.size : Nat) : Int) < 1))) h3 rfl fun a4 h4 => ?_; clear h3
 refine pk0 (v := .bool (decide (((k.size : Nat) : Int) < 1))) h4 rfl fun a5 h5 => ?_; clear h4
 cases hc6 : (decide (((k.size : Nat) : Int) < 1))
 ·
  rw [hc6] at h5
  have hp7 : ¬ (((k.size : Nat) : Int) < 1) := of_decide_eq_false hc6
  clear hc6
  refine pk0 (v := .string k) h5 rfl fun a8 h8 => ?_; clear h5
  refine pk (v := .int .i64 ((k.size : Nat) : Int)) h8 rfl (rn_lenStr rfl rfl Try.underlying9) fun a9 h9 => ?_; clear h8
  refine pk0 (v := .bool (decide (((k.size : Nat) : Int) > 8))) h9 rfl fun a10 h10 => ?_; clear h9
  refine pk0 (v := .bool (decide (((k.size : Nat) : Int) > 8))) h10 rfl fun a11 h11 => ?_; clear h10
  refine pl_nil ?_
  refine co_then ?_
  cases hc12 : (decide (((k.size : Nat) : Int) > 8))
  ·
   rw [hc12] at h11
   have hp13 : ¬ (((k.size : Nat) : Int) > 8) := of_decide_eq_false hc12
   clear hc12
   refine co_false h11 rfl ?_
   refine wp_skip ?_
   refine co_then ?_
   refine co_seq ?_
   refine co_reg ?_
   refine pk0 (v := .int .i64 0) h11 rfl fun a14 h14 => ?_; clear h11
   refine pl_nil ?_
   refine co_then ?_
   refine wp_ret ?_
   refine co_ret1 h14 rfl rfl ?_
   exact ⟨ret_int (by unfold keyC; first | rw [if_pos (by omega)] | rw [if_neg (by omega)]), hB0⟩
  ·
   rw [hc12] at h11
   have hp15 : ((k.size : Nat) : Int) > 8 := of_decide_eq_true hc12
   clear hc12
   refine co_true h11 rfl ?_
   refine co_seq ?_
   refine co_reg ?_
   refine pk0 (v := .int .i64 10) h11 rfl fun a16 h16 => ?_; clear h11
   refine pl_nil ?_
   refine co_then ?_
   refine wp_ret ?_
   refine co_thenR ?_
   refine co_ret1 h16 rfl rfl ?_
   exact ⟨ret_int (by unfold keyC; first | rw [if_pos (by omega)] | rw [if_neg (by omega)]), hB0⟩
 ·
  rw [hc6] at h5
  have hp17 : ((k.size : Nat) : Int) < 1 := of_decide_eq_true hc6
  clear hc6
  refine psk h5 rfl fun a18 h18 => ?_; clear h5
  refine psk h18 rfl fun a19 h19 => ?_; clear h18
  refine psk h19 rfl fun a20 h20 => ?_; clear h19
  refine pk0 (v := .bool true) h20 rfl fun a21 h21 => ?_; clear h20
  refine pl_nil ?_
  refine co_then ?_
  refine co_true h21 rfl ?_
  refine co_seq ?_
  refine co_reg ?_
  refine pk0 (v := .int .i64 10) h21 rfl fun a22 h22 => ?_; clear h21
  refine pl_nil ?_
  refine co_then ?_
  refine wp_ret ?_
  refine co_thenR ?_
  refine co_ret1 h22 rfl rfl ?_
  exact ⟨ret_int (by unfold keyC; first | rw [if_pos (by omega)] | rw [if_neg (by omega)]), hB0⟩
end Go.Proofs.Ytaoibbakflacoaa

/- Slices of any elements that came in, opened by their readings. Conditions: none. -/
namespace Go.Proofs.Ytaoibbakflacoaa
open Go.RowKit Go.ChangeShapes Go.WideShapes Go.Deep

section
variable {H : Type} {enc : TypeId × Value → H} {P : Program} {w : World} {base : Nat} {spare : Nat → Bool} {held : Bool}
theorem open_rows {α : Type} [Inhabited α] {t e : TypeId} {fuel : Nat} {cs : List Value} {x : DataW H × List MemPlace} (E : α → List Value) (sz : Nat) (good : α → Prop)
    (ht : P.underlying t = some (.slice e)) (hC : P.cellsOf e = sz) (hpos : 0 < sz)
    (elem : ∀ n cs x, DataW.trod enc P w base spare held n e cs = some x → ∃ a : α, cs = E a ∧ good a)
    (h : DataW.trod enc P w base spare held fuel t cs = some x) :
    ∃ (l : List α) (v : Value), cs = [v] ∧ SliceOf E sz w v l ∧ ∀ a ∈ l, good a := by
  rcases open_slice ht h with ⟨hcs, _⟩ | ⟨a, len, cap, m, n, D, Pl, hcs, _, hl, hm, hmm, _, hi⟩
  · exact ⟨[], _, hcs, SliceOf.nil _ _ _, by simp⟩
  · have hlm : len ≤ m := by rw [hmm]; split <;> omega
    rw [hC] at hi
    obtain ⟨f, hf⟩ := choose_lt (α := α) (n := len) (p := fun i y => (∀ j u, (E y)[j]? = some u → w.cell? ((a.add (i * sz)).add j) = some u) ∧ good y ∧ (E y).length = sz) (fun i hilt => by
      obtain ⟨cs', hc, ht'⟩ := hi i (by omega)
      obtain ⟨y, rfl, hg⟩ := elem n cs' _ ht'
      obtain ⟨_, hcl, hat⟩ := World.cells?_some hc
      exact ⟨y, fun j u hu => by
        have hj : j < (E y).length := (List.getElem?_eq_some_iff.1 hu).1
        rw [hat j (by omega), hu], hg, hcl⟩)
    refine ⟨(List.range len).map f, _, hcs, ⟨some a, cap, by simp, by simpa using hl, by unfold maxLen at hm; omega, fun h => (by cases h), fun j hj => ?_⟩, fun y hy => ?_⟩
    · have hj' : j < len := by simpa using hj
      obtain ⟨b, off, spot⟩ := a
      have hspot : spot = none := by
        obtain ⟨h1, _, h3⟩ := hf 0 (by omega)
        have hc0 := h1 0 _ (List.getElem?_eq_getElem (show 0 < (E (f 0)).length by omega))
        simpa [Addr.add] using World.cell?_spot hc0
      subst hspot
      refine ⟨b, off, rfl, fun i u hu => ?_⟩
      have := (hf j hj').1 i u (by simpa using hu)
      rw [Addr.add_lit, Addr.add_lit] at this
      exact this
    · obtain ⟨i, hi', rfl⟩ := List.mem_map.1 hy
      exact (hf i (List.mem_range.1 hi')).2.1
/-- A struct of one-cell fields: each field's cell, and its reading. -/
theorem trod_fields {t : TypeId} {fs : Array Field} {fuel : Nat} {cs : List Value} {x : DataW H × List MemPlace} (hs : P.underlying t = some (.struct fs)) (hone : oneCellFields P fs = true) (hC : P.cellsOf t = fs.size)
    (h : DataW.trod enc P w base spare held fuel t cs = some x) :
    cs.length = fs.size ∧ ∃ m, ∀ (j : Nat) (f : Field), fs[j]? = some f → ∃ c y, cs[j]? = some c ∧ DataW.trod enc P w base spare held m f.type [c] = some y := by
  obtain ⟨xs, m, _, _, hl, hx, hf⟩ := DataW.trod_struct hs h
  rw [hC] at hl
  refine ⟨hl, m, fun j f hj => ?_⟩
  have hjl : j < fs.size := (Array.getElem?_eq_some_iff.1 hj).1
  obtain ⟨o, k⟩ := hone_of hone j f hj
  have h1 := hf j f hj
  rw [o, k, List.drop_eq_getElem_cons (by omega), List.take_succ_cons, List.take_zero, List.getElem?_eq_getElem (by omega)] at h1
  exact ⟨_, _, List.getElem?_eq_getElem (by omega), h1⟩
end
end Go.Proofs.Ytaoibbakflacoaa

/- Slices of texts that came in. Conditions: none. -/
namespace Go.Proofs.Ytaoibbakflacoaa
open Go.RowKit Go.ChangeShapes Go.WideShapes

/-- One text a cell. -/
def strE (s : ByteArray) : List Value := [.string s]
end Go.Proofs.Ytaoibbakflacoaa

/- Entries of a log that came in (over the texts of ops): a batch (client, request, operations), a timestamp; with how much they hold. Conditions: none. -/
namespace Go.Proofs.Ytaoibbakflacoaa
open Go.RowKit Go.ChangeShapes Go.WideShapes Go.Deep Go.PlainAid

def opOk (o : OpT) : Prop := o.1.size ≤ 9223372036854775807 ∧ o.2.1.size ≤ 9223372036854775807
/-- An entry: client, request, the operations' slice as a value and as a list, timestamp. -/
structure EntT where
  client : Int
  req : Int
  ops : Value
  opl : List OpT
  ts : Int
instance : Inhabited EntT := ⟨⟨0, 0, .slice none 0 0, [], 0⟩⟩
def entE (e : EntT) : List Value := [.int .i64 e.client, .int .i64 e.req, e.ops, .int .u64 e.ts]
/-- What is known of an entry that came in. -/
structure EntOk (w : World) (e : EntT) : Prop where
  ops : SliceOf opE 3 w e.ops e.opl
  each : ∀ o ∈ e.opl, opOk o
  ts0 : 0 ≤ e.ts
  ts1 : e.ts < 18446744073709551616
  cl : (Lit.int .i64 e.client).wf = true
  rq : (Lit.int .i64 e.req).wf = true
theorem EntOk.below {w w' : World} {e : EntT} (h : EntOk w e) (hb : Below w.heap.size w w') : EntOk w' e := ⟨h.ops.below hb, h.each, h.ts0, h.ts1, h.cl, h.rq⟩
section
variable {H : Type} {enc : TypeId × Value → H} {w : World} {base : Nat} {spare : Nat → Bool} {held : Bool}
end
section
variable {H : Type} {enc : TypeId × Value → H} {P : Program} {w : World} {base : Nat} {spare : Nat → Bool} {held : Bool}
end
section
variable {H : Type} {enc : TypeId × Value → H} {w : World} {base : Nat} {spare : Nat → Bool} {held : Bool}
end

end Go.Proofs.Ytaoibbakflacoaa

/- Stores into a part of a block; boxes of an opaque value. Conditions: none. -/
namespace Go.Proofs.Ytaoibbakflacoaa
open Go.RowKit

section
variable {P : Program} {n : Nat} {m : List (Nat × Value)} {w x w0 : World} {o : Oper} {N : Nat} {T : TypeId} {cs : Array Value} {S : Nat → Prop}
theorem op_storePart {t : TypeId} {p q : Operand} {cells cs' : Array Value} {k : Nat} (ho : o.op = .store t p q) (hp : ev m p = some (.pointer (some ⟨N, k, none⟩))) (hq : ev m q = some (.agg cells)) (h1 : cells.all (·.oneCell') = true) (hi : (P.info? t).map (·.size) = some cells.size)
    (hb : Blk w N T cs) (hk : Nat.ble (k + cells.size) cs.size = true) (he : (cs.toList.take k ++ cells.toList ++ cs.toList.drop (k + cells.size)).toArray = cs') : Op1 P n m o w (fun _ x => Blk x N T cs' ∧ x.heap.size = w.heap.size ∧ w.grownBy x (some N)) := by
  intro a ha K Q hN
  have hk' : k + cells.size ≤ cs.size := by simpa using hk
  have hthere : w.there N k cells.size := fun j hj => ⟨by rw [hb.cell (k := k + j) (v := cs[k + j]'(by omega)) (by rw [Array.getElem?_eq_getElem])]; rfl, hb.frozen _⟩
  refine wp_store_mid t p q ho N k cells (ha.ev hp) (ha.ev hq) hthere hi h1 (hN _ _ ⟨?_, ?_, ?_⟩)
  · have := setCells_blk cells.toList w cs k hb (by simpa using hk')
    simp only [Array.length_toList] at this
    rw [he] at this; exact this
  · have hsz : ∀ (vs : List Value) (k : Nat) (w : World), (w.setCells N k vs).heap.size = w.heap.size := by
      intro vs
      induction vs with
      | nil => intro k w; rfl
      | cons v r ih => intro k w; rw [World.setCells, ih]; simp [World.setCell]
    exact hsz _ _ _
  · have hg : ∀ (vs : List Value) (k : Nat) (w : World), w.grownBy (w.setCells N k vs) (some N) := by
      intro vs
      induction vs with
      | nil => intro k w; exact World.grownBy.refl _ _
      | cons v r ih => intro k w; rw [World.setCells]; exact (grown_setCell w N k v).trans (ih _ _)
    exact hg _ _ _
end
end Go.Proofs.Ytaoibbakflacoaa

/- A range over a text: the call's own place among its bytes. Conditions: the bytes are below 128. -/
namespace Go.Proofs.Ytaoibbakflacoaa
open Go.RowKit Go.PlainAid Go.ChangeMaps
def SIt (w : World) (r : Nat) (s : ByteArray) (pos : Nat) : Prop := w.heap[r]? = some (.stringIter s pos)
section
variable {P : Program} {n : Nat} {m : List (Nat × Value)} {w x : World} {o : Oper} {r pos : Nat} {s : ByteArray} {q : Operand} {t : TypeId}
theorem SIt.lt (h : SIt w r s pos) : r < w.heap.size := (Array.getElem?_eq_some_iff.1 (show w.heap[r]? = _ from h)).1
theorem SIt.kept {row : Option Nat} (h : SIt w r s pos) (hg : w.grownBy x row) (h2 : row ≠ some r) : SIt x r s pos := by
  unfold SIt; rw [hg.block r h.lt (fun e => h2 e.symm)]; exact h
theorem SIt.row {B' : Nat} {T : TypeId} {sz k : Nat} {v : Value} {xs : List Value} (h : SIt w r s pos) (hr : w.ownsRow B' T sz v k xs) : v.ownBlock ≠ some r := by
  intro e
  obtain ⟨_, h2⟩ := hr
  rcases h2 with h2 | ⟨g, cap, cur, hv, hg, hh, _⟩
  · rw [h2.1] at e; simp [Value.ownBlock] at e
  · rw [hv] at e
    simp only [Value.ownBlock, Option.some.injEq] at e
    subst e
    rw [show w.heap[g]? = _ from h] at hh; cases hh
theorem SIt.but {S : Nat → Prop} (h : SIt w r s pos) (hb : But S w x) (hn : ¬ S r) : SIt x r s pos := by
  unfold SIt; rw [hb.block r h.lt hn]; exact h
end
end Go.Proofs.Ytaoibbakflacoaa

/- Package mess: parts, numbers, lists checked. Conditions: none. -/
namespace Go.Proofs.Ytaoibbakflacoaa
open Go.RowKit Go.PlainAid
set_option linter.unusedVariables false


abbrev PrT := ByteArray × ByteArray
def prE (y : PrT) : List Value := [.string y.1, .string y.2]
theorem prE_len (y : PrT) : (prE y).length = 2 := rfl
theorem prE_one (y : PrT) : ∀ u ∈ prE y, u.oneCell' = true := by intro u hu; simp [prE] at hu; rcases hu with rfl | rfl <;> rfl
/-- A message, without where its lists lie. -/
structure MsgD where
  k : Int
  ep : Int
  rq : Int
  sr : Int
  fg : Bool
  at_ : Int
  la : Int
  n : Int
  m : Int
  p : Int
  e : Int
  key : ByteArray
  to_ : ByteArray
  cep : Int
  cms : List MemT
  cfl : Int
  bc : Int
  br : Int
  bl : List OpT
  en : List EntT
  st : List Int
  pr : List PrT
/-- What is known of a message that may be. -/
structure MsgR (d : MsgD) : Prop where
  mem : ∀ m ∈ d.cms, memOk m
  rng : (-9223372036854775808 ≤ d.cep ∧ d.cep ≤ 9223372036854775807) ∧ (0 ≤ d.cfl ∧ d.cfl < 18446744073709551616) ∧ (0 ≤ d.at_ ∧ d.at_ < 18446744073709551616) ∧ (0 ≤ d.la ∧ d.la < 18446744073709551616)
  st : ∀ t ∈ d.st, 0 ≤ t ∧ t < 18446744073709551616
def numL (p : Int) : Prop := p = 101 ∨ p = 115 ∨ p = 113 ∨ p = 110 ∨ p = 109 ∨ p = 112
instance (p : Int) : Decidable (numL p) := by unfold numL; infer_instance
end Go.Proofs.Ytaoibbakflacoaa

/- Messages that came in by value, opened. Conditions: none. -/
namespace Go.Proofs.Ytaoibbakflacoaa
open Go.RowKit Go.ChangeShapes Go.WideShapes Go.Deep
structure MsgX where
  d : MsgD
  mv : Value
  bv : Value
  ev : Value
  sv : Value
  pv : Value
structure MsgOk (w : World) (x : MsgX) : Prop where
  hm : SliceOf memE 2 w x.mv x.d.cms
  hb : SliceOf opE 3 w x.bv x.d.bl
  he : SliceOf entE 4 w x.ev x.d.en
  ht : SliceOf (intE .u64) 1 w x.sv x.d.st
  hp : SliceOf prE 2 w x.pv x.d.pr
  hok : ∀ z ∈ x.d.en, EntOk w z
  hR : MsgR x.d
  hn : -9223372036854775808 ≤ x.d.n ∧ x.d.n ≤ 9223372036854775807
  hP : -9223372036854775808 ≤ x.d.p ∧ x.d.p ≤ 9223372036854775807
section
variable {H : Type} {enc : TypeId × Value → H} {w : World} {base : Nat} {spare : Nat → Bool} {held : Bool}
set_option maxRecDepth 10000 in
theorem elem_pr (n : Nat) (cs : List Value) (x : DataW H × List MemPlace) (h : DataW.trod enc Try.prog w base spare held n 57 cs = some x) : ∃ p : PrT, cs = prE p ∧ True := by
  obtain ⟨hl, m, hf⟩ := trod_fields Try.underlying57 (by kernel_rfl) (by kernel_rfl) h
  have hl2 : cs.length = 2 := hl
  clear hl
  match cs, hl2 with
  | [c0, c1], _ =>
    obtain ⟨_, y0, e0, h0⟩ := hf 0 _ rfl
    obtain ⟨_, y1, e1, h1⟩ := hf 1 _ rfl
    cases e0; cases e1
    obtain ⟨a, e0, _⟩ := DataW.trod_string Try.underlying9 h0
    obtain ⟨b, e1, _⟩ := DataW.trod_string Try.underlying9 h1
    simp only [List.cons.injEq, and_true] at e0 e1
    subst e0 e1
    exact ⟨(a, b), rfl, trivial⟩
theorem open_prs {fuel : Nat} {cs : List Value} {x : DataW H × List MemPlace} (h : DataW.trod enc Try.prog w base spare held fuel 33 cs = some x) :
    ∃ (l : List PrT) (v : Value), cs = [v] ∧ SliceOf prE 2 w v l ∧ ∀ p ∈ l, True :=
  open_rows prE 2 (fun _ => True) Try.underlying33 (by kernel_rfl) (by omega) elem_pr h
end
end Go.Proofs.Ytaoibbakflacoaa

/- slices.Grow of nothing, for pairs: a new row with no entries; a method that is called through an interface. Conditions: at most 1000. -/
namespace Go.Proofs.Ytaoibbakflacoaa
open Go Go.RowKit Go.PlainAid
set_option linter.unusedVariables false
set_option linter.unusedSimpArgs false

theorem run_append_mkP {P : Program} (w : World) (t tx ty e : TypeId) (i : TypeInfo) (z : Value) (ht : P.underlying t = some (.slice e)) (hx : P.underlying tx = some (.int .i64)) (hi : P.info? e = some i) (hz : i.zero = some z) (n : Nat) (h0 : 0 < n) (hn : n ≤ 1000) (hs : i.size = 2) (hb : i.bytes = 32) :
    (Builtin.append_ #[t, tx] ty #[.slice none 0 0, .int .i64 n]).run P w =
      .ok (.slice (some ⟨w.heap.size, 0, none⟩) n (grownCap w n 0 e))
        (w.drew.alloc (.cells (Builtin.zeroCells z.cells n ++ Builtin.zeroCells z.cells (grownCap w n 0 e - n)) e)) := by
  have hw : IntKind.i64.wrap (n : Int) = n := IntWalk.i64_in _ ⟨by omega, by omega⟩
  have h1 : ¬ ((n : Int) < 0) := by omega
  have h2 : ¬ (281474976710656 < (n : Int) * 32) := by omega
  have h3 : ¬ (n = 0) := by omega
  have h63' : ¬ (9223372036854775807 < (n : Int)) := by omega
  have hg : Builtin.nextslicecap n 0 = n := by unfold Builtin.nextslicecap; rw [if_pos (by omega)]
  have h48' : ¬ (281474976710656 < n * 32) := by omega
  have hA : (asIntOf (.int .i64 (n : Int))).run P w = .ok (.i64, (n : Int)) w := rfl
  have h4 : ¬ ((n : Int) ≤ 0) := by omega
  have h5 : max (n : Int) 0 = n := by omega
  have h6 : ¬ (n * 2 = 0) := by omega
  simp [Builtin.append_, hA, h4, h5, h6, run_underlying ht, run_underlying hx, sizeOf, typeInfo, zeroValue, hi, hz, hs, hb, hw, h1, h2, h3, h63', hg, h48', Question.forced, newRow, grownCap, asInt, Builtin.firstCells]

def zpP : PrT := (⟨#[]⟩, ⟨#[]⟩)
theorem zeros_pr : ∀ k : Nat, (Builtin.zeroCells (Value.agg #[.string ⟨#[]⟩, .string ⟨#[]⟩]).cells k).toList = (List.replicate k zpP).flatMap prE := by
  intro k
  induction k with
  | zero => simp [Builtin.zeroCells]
  | succ k ih =>
    rw [List.replicate_succ', List.flatMap_append, ← ih]
    simp only [Builtin.zeroCells, Value.cells, Array.toList_map, Array.toList_range]
    show List.map _ (List.range ((k + 1) * 2)) = List.map _ (List.range (k * 2)) ++ _
    rw [show (k + 1) * 2 = k * 2 + 1 + 1 by omega, List.range_succ, List.range_succ, List.map_append, List.map_append, List.append_assoc]
    congr 1
    simp [prE, zpP, Nat.mul_mod_left, show (k * 2 + 1) % 2 = 1 by omega]
section
variable {P : Program} {n : Nat} {m : List (Nat × Value)} {w : World} {o : Oper}
/-- append(nothing, as many zeros) -/
theorem op_appendMkP {s q : Operand} {t tx e : TypeId} (ho : o.op = .call { callee := .builtin .append, args := #[s, q], argTypes := #[t, tx] })
    (ht : P.underlying t = some (.slice e)) (hx : P.underlying tx = some (.int .i64)) (hi : (P.info? e).map (fun i => (i.zero, i.size, i.bytes)) = some (some (.agg #[.string ⟨#[]⟩, .string ⟨#[]⟩]), 2, 32))
    (hs : ev m s = some (.slice none 0 0)) {k : Nat} (hq : ev m q = some (.int .i64 (k : Int))) (h0 : 0 < k) (hk : k ≤ 1000) :
    Op1 P n m o w (fun u x => x.ownsRow w.heap.size e 2 u (List.replicate k zpP).length ((List.replicate k zpP).flatMap prE) ∧ w.grownBy x none) := by
  intro a ha K Q hN
  obtain ⟨i0, hii, hz0, hz1, hz2⟩ := info_parts hi
  have hr := run_append_mkP (P := P) w t tx o.type e i0 (.agg #[.string ⟨#[]⟩, .string ⟨#[]⟩]) ht hx hii hz0 k h0 hk hz1 hz2
  unfold Oper.wp execOp
  simp only [ho, resolve, invoke, builtin, Sem.run_bind, Sem.run_pure, Result.andThen_ok, List.map_toArray, List.map_cons, List.map_nil, ha.ev hs, ha.ev hq, hr]
  refine hN _ _ ⟨?_, ⟨rfl, rfl, rfl, by simp, fun j hj _ => heap_alloc_old w.drew _ hj⟩⟩
  have hge := grownCap_ge w k 0 e
  have hcm : grownCap w k 0 e ≤ maxLen := grownCap_le_maxLen w k 0 e (by unfold maxLen; omega)
  have hfl := zeros_pr k
  rw [List.length_replicate]
  refine ⟨by rw [← hfl, Array.length_toList, size_zeroCells]; rfl, .inr ⟨w.heap.size, _, _, rfl, Nat.le_refl _, heap_alloc_new w.drew _, hge, hcm, ?_, ?_⟩⟩
  · simp only [Array.size_append, size_zeroCells]
    show k * 2 + (grownCap w k 0 e - k) * 2 = grownCap w k 0 e * 2
    omega
  · rw [Array.toList_append, hfl, List.take_append_of_le_length (by rw [← hfl, Array.length_toList, size_zeroCells]; exact Nat.le_refl _), List.take_of_length_le (by rw [← hfl, Array.length_toList, size_zeroCells]; exact Nat.le_refl _)]
end
set_option maxRecDepth 100000 in
theorem growNilP (n : Nat) (hn : n ≤ 1000) (w : World) :
    Calls Try.prog 95 #[.slice none 0 0, .int .i64 (n : Int)] w fun e w' => ∃ u, e = .returned u ∧ w'.ownsRow w.heap.size 57 2 u ([] : List PrT).length (([] : List PrT).flatMap prE) ∧ Below w.heap.size w w' := by
 refine co_enter (n := 27) Try.func95 rfl rfl rfl [(0, .slice none 0 0), (1, .int .i64 (n : Int))] rfl (fun a h => ?_)
 refine co_seq ?_
 refine co_reg ?_
 refine pk0 (v := .slice none 0 0) h rfl fun _ h => ?_
 refine pl_nil ?_
 refine co_then ?_
 refine co_seq ?_
 refine co_seq ?_
 refine co_reg ?_
 refine pk0 (v := .int .i64 (n : Int)) h rfl fun _ h => ?_
 refine pk0 (v := .bool (decide ((n : Int) < 0))) h rfl fun _ h => ?_
 refine pl_nil ?_
 refine co_then ?_
 rw [decide_eq_false (show ¬ ((n : Int) < 0) by omega)] at h
 refine co_false h rfl ?_
 refine wp_skip ?_
 refine co_then ?_
 refine co_seq ?_
 refine co_seq ?_
 refine co_reg ?_
 refine pk0 (v := .int .i64 (n : Int)) h rfl fun _ h => ?_
 refine pk0 (v := .slice none 0 0) h rfl fun _ h => ?_
 refine pk0 (v := .int .i64 0) h rfl fun _ h => ?_
 refine pk0 (v := .slice none 0 0) h rfl fun _ h => ?_
 refine pk0 (v := .int .i64 0) h rfl fun _ h => ?_
 refine pk0 (v := .int .i64 0) h rfl fun _ h => ?_
 refine pk (v := .int .i64 (n : Int)) h rfl (rn_arith' rfl rfl rfl rfl rfl rfl (IntWalk.i64_in _ (by omega)) (by omega)) fun _ h => ?_
 refine pk0 (v := .int .i64 (n : Int)) h rfl fun _ h => ?_
 refine pl_nil ?_
 refine co_then ?_
 refine co_seq ?_
 refine co_reg ?_
 refine pk0 (v := .int .i64 (n : Int)) h rfl fun _ h => ?_
 refine pk0 (v := .bool (decide ((n : Int) > 0))) h rfl fun _ h => ?_
 refine pl_nil ?_
 refine co_then ?_
 by_cases hp : (n : Int) > 0
 · rw [decide_eq_true hp] at h
   refine co_true h rfl ?_
   refine co_reg ?_
   refine pk0 (v := .slice none 0 0) h rfl fun _ h => ?_
   refine pk0 (v := .slice none 0 0) h rfl fun _ h => ?_
   refine pk0 (v := .int .i64 0) h rfl fun _ h => ?_
   refine pk (v := .slice none 0 0) h rfl (rn_sliceTo (enc := prE) (l := []) (j := 0) rfl rfl rfl Try.underlying33 (fun w => by rfl) (SliceOf.nil _ _ _) rfl (Nat.zero_le _)) fun _ h => ?_
   refine pk0 (v := .int .i64 (n : Int)) h rfl fun _ h => ?_
   refine pw h rfl (op_appendMkP (k := n) rfl Try.underlying33 Try.underlying3 (by kernel_rfl) rfl rfl (by omega) hn) ?_
   rintro u w1 _ ⟨hr, hg⟩ h
   refine pk0 (v := .slice none 0 0) h rfl fun _ h => ?_
   refine pk0 (v := .int .i64 0) h rfl fun _ h => ?_
   refine pk (v := subV u 0 0 2) h rfl (rn_sliceTo (j := 0) rfl rfl rfl Try.underlying33 (fun w => by rfl) (row_sl hr (fun _ => rfl)) rfl (Nat.zero_le _)) fun _ h => ?_
   refine pk0 (v := subV u 0 0 2) h rfl fun _ h => ?_
   refine pl_nil ?_
   refine co_then ?_
   refine co_seq ?_
   refine co_reg ?_
   refine pk0 (v := subV u 0 0 2) h rfl fun _ h => ?_
   refine pk0 (v := subV u 0 0 2) h rfl fun _ h => ?_
   refine pl_nil ?_
   refine co_then ?_
   refine wp_ret ?_
   refine co_ret1 h rfl rfl ?_
   exact ⟨_, rfl, row_cut hr (fun _ => rfl) 0 (Nat.zero_le _) (.inr trivial), (Below.refl w.heap.size w).grown hg (Nat.le_refl _) (fun k e => by cases e)⟩
 · rw [decide_eq_false hp] at h
   refine co_false h rfl ?_
   refine wp_skip ?_
   refine co_then ?_
   refine co_seq ?_
   refine co_reg ?_
   refine pk0 (v := .slice none 0 0) h rfl fun _ h => ?_
   refine pk0 (v := .slice none 0 0) h rfl fun _ h => ?_
   refine pl_nil ?_
   refine co_then ?_
   refine wp_ret ?_
   refine co_ret1 h rfl rfl ?_
   exact ⟨_, rfl, World.ownsRow_nil _ _ _ _, Below.refl _ _⟩

theorem growNilPI (i : Int) (h0 : 0 ≤ i) (h1 : i ≤ 1000) (w : World) :
    Calls Try.prog 95 #[.slice none 0 0, .int .i64 i] w fun e w' => ∃ u, e = .returned u ∧ w'.ownsRow w.heap.size 57 2 u ([] : List PrT).length (([] : List PrT).flatMap prE) ∧ Below w.heap.size w w' := by
  obtain ⟨n, rfl⟩ := Int.eq_ofNat_of_zero_le h0
  exact growNilP n (by omega) w
/-- A method that is called through an interface. -/
theorem op_callI {P : Program} {n : Nat} {m : List (Nat × Value)} {o : Oper} {w : World} {c : Call} {q : Operand} {nm : String} {f : FuncId} {T : TypeId} {v recv : Value} {args : Array Value} {E : Ending → World → Prop} {R : Value → World → Prop} (ho : o.op = .call c) (hc : c.callee = .invoke q nm) (hf : ev m q = some (.iface T v))
    (hq : okOps m o.op = true) (hm : (method (P.types.size + Made.depth) T v nm).run P w = .ok (f, recv) w) (hargs : #[recv] ++ c.args.map (lk m) = args) (hcall : (callFunc f args).run P w = .ok (.enter f args) w) (h : Calls P f args w E) (hE : ∀ e w', E e w' → ∃ v, e = .returned v ∧ R v w') : Op1 P n m o w R := by
  intro a ha K Q hN
  have he : execOp a.eval o = execOp (lk m) o := execOp_congr o (fun cs b e => by simp [e] at ho) (fun x hx => ha.lk (Array.all_eq_true_iff_forall_mem.1 hq x hx))
  unfold Oper.wp
  rw [he]
  have hfx : lk m q = .iface T v := by simp [lk, hf]
  have h2 : (callMethod (.iface T v) nm (c.args.map (lk m))).run P w = .ok (.enter f args) w := by
    simp only [callMethod, Sem.run_bind, run_program, Result.andThen_ok, hm]
    rw [hargs]; exact hcall
  have : (execOp (lk m) o).run P w = .ok (.enter f args) w := by
    simp only [execOp, ho, resolve, hc, hfx, Sem.run_bind, Sem.run_pure, Result.andThen_ok, invoke]
    rw [show (#[Value.iface T v] ++ Array.map (lk m) c.args)[0]? = some (.iface T v) from by simp [Array.getElem?_append]]
    rw [show (#[Value.iface T v] ++ Array.map (lk m) c.args).extract 1 (#[Value.iface T v] ++ Array.map (lk m) c.args).size = Array.map (lk m) c.args from by apply Array.ext'; simp; rw [List.take_of_length_le (by simp)]]
    exact h2
  rw [this, Oper.upon_enter]
  refine h.mono fun e w' he => ?_
  obtain ⟨v, rfl, hv⟩ := hE e w' he
  exact hN v w' hv
section
variable {P : Program} {n : Nat} {m : List (Nat × Value)} {w : World} {N : Nat} {T : TypeId} {cs : Array Value}
/-- A slot and a struct as results. -/
theorem co_retTC {Q : Exit → Act → World → Prop} {a : Act} {fn : Func} {E : Ending → World → Prop} {t u : Nat} {T' : TypeId} {y : Value} {d : TypeDesc} (hs : Slots n m a) (hr : fn.results = #[.tmp u, .cell t T']) (ht : m.lookup t = some (.pointer (some ⟨N, 0, none⟩))) (hu : m.lookup u = some y) (hb : Blk w N T cs)
    (hd : P.underlying T' = some d) (hrow : d.isRow = true) (hi : (P.info? T').map (·.size) = some cs.size) (h : E (.returned (.tuple #[y, .agg cs])) w) : bodyPost P fn E .ret a w := by
  have h1 := hs.look t _ ht
  have h2 := hs.look u _ hu
  have hl := run_loadVar_mid w N 0 T' cs.toList d hb.all hd hrow (by simpa using hi)
  have hrun : (results fn a.tmps).run P w = .ok (.tuple #[y, .agg cs]) w := by
    have h1' : (a.tmps[t]?).getD undef = .pointer (some ⟨N, 0, none⟩) := by rw [← h1, Array.getD_eq_getD_getElem?]
    have h2' : (a.tmps[u]?).getD undef = y := by rw [← h2, Array.getD_eq_getD_getElem?]
    simp [results, hr, h1', h2', asAddr, hl, Sem.run_bind]
  exact bodyPost_ret hrun hs.defers h
end
end Go.Proofs.Ytaoibbakflacoaa

/- Keys: the least text above a text, of at most b bytes, and that nothing lies between. Plain lists. Conditions: none. -/
namespace Go.Proofs.Ytaoibbakflacoaa

/-- The least text above k that has at most b bytes. -/
def nx : Nat → List UInt8 → Option (List UInt8)
  | 0, _ => none
  | _ + 1, [] => some [0]
  | b + 1, c :: r => match nx b r with
    | some m => some (c :: m)
    | none => if c.toNat < 255 then some [UInt8.ofNat (c.toNat + 1)] else none

theorem bl_nil (l : List UInt8) : Op.bytesLess l [] = false := by cases l <;> rfl
theorem bl_cons (a b : UInt8) (x y : List UInt8) : Op.bytesLess (a :: x) (b :: y) = (decide (a < b) || (a == b && Op.bytesLess x y)) := rfl
theorem bl_irrefl (l : List UInt8) : Op.bytesLess l l = false := by
  induction l with
  | nil => rfl
  | cons a l ih => rw [bl_cons, ih]; simp [UInt8.lt_irrefl]
/-- x ≤ y, as a Bool: what Go's own comparison gives. -/
def le (x y : List UInt8) : Bool := Op.bytesLess x y || x == y
theorem le_nil (x : List UInt8) : le [] x = true := by cases x <;> rfl
theorem le_cons (a b : UInt8) (x y : List UInt8) : le (a :: x) (b :: y) = (decide (a < b) || (a == b && le x y)) := by
  unfold le; rw [bl_cons]
  by_cases h1 : a < b
  · simp [h1]
  · by_cases h2 : a = b
    · subst h2; simp [UInt8.lt_irrefl]
    · simp [h1, h2, beq_eq_false_iff_ne.2 h2]

theorem nx_spec : ∀ (b : Nat) (k : List UInt8),
    match nx b k with
    | none => ∀ x : List UInt8, x.length ≤ b → le x k = true
    | some n => 1 ≤ n.length ∧ n.length ≤ b ∧ Op.bytesLess k n = true ∧ ∀ x : List UInt8, x.length ≤ b → le x k = true ∨ le n x = true
  | 0, k => by
    intro x hx
    obtain rfl : x = [] := List.eq_nil_of_length_eq_zero (by omega)
    exact le_nil k
  | b + 1, [] => by
    refine ⟨by simp, by simp, rfl, fun x _ => ?_⟩
    cases x with
    | nil => exact .inl rfl
    | cons c r =>
      right
      rw [le_cons]
      by_cases h : (0 : UInt8) = c
      · subst h; simp [le_nil]
      · have : (0 : UInt8) < c := by
          rw [UInt8.lt_iff_toNat_lt]
          have : c.toNat ≠ 0 := fun e => h (by rw [← UInt8.toNat_inj, e]; rfl)
          simp; omega
        simp [this]
  | b + 1, c :: r => by
    have ih := nx_spec b r
    rw [nx]
    cases hn : nx b r with
    | some m =>
      rw [hn] at ih
      obtain ⟨h1, h2, h3, h4⟩ := ih
      refine ⟨by simp, by simp; omega, by rw [bl_cons, h3]; simp, fun x hx => ?_⟩
      cases x with
      | nil => exact .inl (le_nil _)
      | cons d y =>
        rw [le_cons, le_cons]
        by_cases e1 : d < c
        · left; simp [e1]
        · by_cases e2 : c < d
          · right; simp [e2]
          · have e : d = c := by
              rw [UInt8.lt_iff_toNat_lt] at e1 e2
              rw [← UInt8.toNat_inj]; omega
            subst e
            rcases h4 y (by simpa using hx) with h | h
            · left; simp [h]
            · right; simp [h]
    | none =>
      rw [hn] at ih
      by_cases hc : c.toNat < 255
      · rw [if_pos hc]
        have hlt : c < UInt8.ofNat (c.toNat + 1) := by
          rw [UInt8.lt_iff_toNat_lt, UInt8.toNat_ofNat']; omega
        refine ⟨by simp, by simp, by rw [bl_cons, decide_eq_true hlt]; rfl, fun x hx => ?_⟩
        cases x with
        | nil => exact .inl (le_nil _)
        | cons d y =>
          rw [le_cons, le_cons]
          by_cases e1 : d < c
          · left; simp [e1]
          · by_cases e2 : d = c
            · subst e2; left; simp [ih y (by simpa using hx)]
            · right
              by_cases e3 : UInt8.ofNat (c.toNat + 1) < d
              · rw [decide_eq_true e3]; rfl
              · have : UInt8.ofNat (c.toNat + 1) = d := by
                  rw [UInt8.lt_iff_toNat_lt, UInt8.toNat_ofNat'] at e3
                  rw [UInt8.lt_iff_toNat_lt] at e1
                  rw [← UInt8.toNat_inj] at e2 ⊢
                  rw [UInt8.toNat_ofNat']; omega
                rw [this, beq_self_eq_true, le_nil]; simp
      · rw [if_neg hc]
        intro x hx
        cases x with
        | nil => exact le_nil _
        | cons d y =>
          rw [le_cons]
          have hd := d.toNat_lt
          by_cases e1 : d < c
          · simp [e1]
          · have : d = c := by
              rw [UInt8.lt_iff_toNat_lt] at e1
              rw [← UInt8.toNat_inj]; omega
            subst this
            simp [ih y (by simpa using hx)]

theorem nx_short : ∀ (b : Nat) (k : List UInt8), k.length < b → nx b k = some (k ++ [0])
  | 0, k, h => by omega
  | b + 1, [], _ => rfl
  | b + 1, c :: r, h => by rw [nx, nx_short b r (by simpa using h)]; rfl
/-- One byte more at the front that is not the last that can grow. -/
theorem nx_up (b : Nat) (c : UInt8) (r m : List UInt8) (h : nx b r = some m) : nx (b + 1) (c :: r) = some (c :: m) := by rw [nx, h]
theorem nx_drop : ∀ (j b : Nat) (k m : List UInt8), j ≤ k.length → nx b (k.drop j) = some m → nx (b + j) k = some (k.take j ++ m)
  | 0, b, k, m, _, h => by simpa using h
  | j + 1, b, c :: r, m, hj, h => by
    rw [show b + (j + 1) = (b + j) + 1 by omega]
    rw [nx_up _ c r _ (nx_drop j b r m (by simpa using hj) (by simpa using h))]; simp
  | j + 1, b, [], m, hj, h => by simp at hj
theorem bl_asymm : ∀ (x y : List UInt8), Op.bytesLess x y = true → Op.bytesLess y x = false
  | [], y, _ => bl_nil y
  | a :: x, [], h => by rw [bl_nil] at h; cases h
  | a :: x, b :: y, h => by
    rw [bl_cons] at h ⊢
    by_cases h1 : a < b
    · have h2 : ¬ b < a := by rw [UInt8.lt_iff_toNat_lt] at *; omega
      have h3 : b ≠ a := fun e => by subst e; rw [UInt8.lt_iff_toNat_lt] at h1; omega
      simp [h2, beq_eq_false_iff_ne.2 h3]
    · simp only [h1, decide_false, Bool.false_or, Bool.and_eq_true, beq_iff_eq] at h
      obtain ⟨rfl, h⟩ := h
      simp [UInt8.lt_irrefl, bl_asymm x y h]
theorem le_not (x y : List UInt8) (h : le x y = true) : Op.bytesLess y x = false := by
  unfold le at h
  rw [Bool.or_eq_true, beq_iff_eq] at h
  rcases h with h | rfl
  · exact bl_asymm _ _ h
  · exact bl_irrefl _
/-- What Next answers. -/
def nextL (k : List UInt8) : List UInt8 := (nx 8 k).getD []
end Go.Proofs.Ytaoibbakflacoaa

/- Package keys: what Next, Check, In answer for every text; the walk of the law 'nothing between'. Conditions: texts within the form's own reach. -/
namespace Go.Proofs.Ytaoibbakflacoaa
open Go.RowKit Go.PlainAid

theorem bt_data (s : ByteArray) (i : Nat) : bt s i = ((s.data.toList.getD i 0).toNat : Int) := by
  unfold bt
  by_cases h : i < s.size
  · rw [dif_pos h]
    have h' : i < s.data.toList.length := by simpa using h
    simp only [List.getD, List.getElem?_eq_getElem h', Option.getD_some]
    rfl
  · rw [dif_neg h]
    have h' : s.data.toList.length ≤ i := by simpa using h
    simp [List.getD, List.getElem?_eq_none h']
theorem str_ext (s : ByteArray) (n : Nat) (b : UInt8) : s.extract 0 n ++ ⟨#[b]⟩ = ⟨(s.data.toList.take n ++ [b]).toArray⟩ := by
  apply ByteArray.ext; rw [ByteArray.data_append]; apply Array.ext'; simp

/-- The byte at a place, and one more. -/
theorem run_one (w : World) (v : Int) (h0 : 0 ≤ v) (h1 : v ≤ 255) :
    (convert 156 9 (.slice (some ⟨w.heap.size, 0, none⟩) 1 1)).run Try.prog (w.alloc (.cells #[.int .u8 v] 5)).drew = .ok (.string ⟨#[UInt8.ofNat v.toNat]⟩) (w.alloc (.cells #[.int .u8 v] 5)).drew :=
  run_convert_bytes_back (P := Try.prog) (w.alloc (.cells #[.int .u8 v] 5)).drew 156 9 5 ⟨w.heap.size, 0, none⟩ 1 [UInt8.ofNat v.toNat] Try.underlying156 Try.underlying5 Try.underlying9
    (by intro j hj; simp at hj; subst hj; rw [Addr.add_lit]; show (w.alloc (.cells #[.int .u8 v] 5)).cell? ⟨w.heap.size, 0 + 0, none⟩ = _; rw [World.cell?_alloc_mark]; simp; omega)

set_option maxRecDepth 100000 in
set_option maxHeartbeats 400000 in
theorem next_short (s : ByteArray) (w : World) (hs : s.size < 8) :
    Calls Try.prog 94 #[.string s] w fun e w' => e = .returned (.string ⟨(nextL s.data.toList).toArray⟩) ∧ Below w.heap.size w w' := by
  have e : (⟨(nextL s.data.toList).toArray⟩ : ByteArray) = s ++ { data := #[0] } := by
    unfold nextL
    rw [nx_short 8 _ (by simpa using hs)]
    apply ByteArray.ext; rw [ByteArray.data_append]; apply Array.ext'; simp
  rw [e]; clear e
  go_enter Try.func94, Try.ntmps94
  go_wp2
  go_ret
  exact ⟨rfl, Below.refl _ _⟩

set_option maxRecDepth 100000 in
set_option maxHeartbeats 400000 in
theorem next_long (s : ByteArray) (w : World) (hs : 8 ≤ s.size) (hm : s.size ≤ 9223372036854775807) :
    Calls Try.prog 94 #[.string s] w fun e w' => e = .returned (.string ⟨(nextL s.data.toList).toArray⟩) ∧ Below w.heap.size w w' := by
  have hb := get_bt s
  go_enter Try.func94, Try.ntmps94
  go_wp2
  go_loopg [10] 9 (fun g s10 wr => ∃ i : Nat, s10 = .int .i64 i ∧ i ≤ 8 ∧ 9 ≤ i + g ∧ nx i (s.data.toList.drop (8 - i)) = none ∧ w = wr)
  case atStart => exact ⟨0, rfl, by omega, by omega, rfl, rfl⟩
  case round =>
    obtain ⟨i, rfl, hi, hg, hnone, rfl⟩ := hrel
    have HN := Lib.hid hnone; clear hnone
    by_cases hlt : i < 8
    · have hl : 7 - i < s.data.toList.length := by simp; omega
      have hd : s.data.toList.drop (7 - i) = s.data.toList[7 - i] :: s.data.toList.drop (8 - i) := by
        rw [List.drop_eq_getElem_cons hl, show 7 - i + 1 = 8 - i by omega]
      have hbt : bt s (7 - i) = (s.data.toList[7 - i].toNat : Int) := by
        rw [bt_data]; simp only [List.getD, List.getElem?_eq_getElem hl, Option.getD_some]
      have h255 := bt_le s (7 - i)
      have h0 := bt_nonneg s (7 - i)
      by_cases hc : bt s (7 - i) < 255
      · have hn : nx (i + 1) (s.data.toList.drop (7 - i)) = some [UInt8.ofNat (s.data.toList[7 - i].toNat + 1)] := by
          rw [hd, nx, HN.out]; simp only; rw [if_pos (by omega)]
        have hx := nx_drop (7 - i) (i + 1) s.data.toList _ (by omega) hn
        rw [show i + 1 + (7 - i) = 8 by omega] at hx
        have hr : nextL s.data.toList = s.data.toList.take (7 - i) ++ [UInt8.ofNat (bt s (7 - i) + 1).toNat] := by
          unfold nextL; rw [hx, hbt]; simp only [Option.getD_some]; congr 3
        have HR := Lib.hid hr
        have hconv := run_one w (bt s (7 - i) + 1) (by omega) (by omega)
        clear hn hx hr hd hbt hl
        go_wp2_with fail
        go_region
        go_wp2
        go_ret
        exact ⟨by rw [HR.out, ← str_ext]; rfl, ((Below.refl _ _).alloc (Nat.le_refl _) _).drew⟩
      · have hn : nx (i + 1) (s.data.toList.drop (8 - (i + 1))) = none := by
          rw [show 8 - (i + 1) = 7 - i by omega, hd, nx, HN.out]; simp only; rw [if_neg (by omega)]
        have HN2 := Lib.hid hn
        clear hn hd hbt hl
        go_wp2
        go_roundg (gk - 1)
        case rel => exact ⟨i + 1, by go_num, by omega, by omega, HN2.out, rfl⟩
        case measure => omega
    · obtain rfl : i = 8 := by omega
      have hr : nextL s.data.toList = [] := by unfold nextL; rw [show s.data.toList = s.data.toList.drop (8 - 8) by simp, HN.out]; rfl
      have HR := Lib.hid hr; clear hr
      go_wp2
      go_ret
      exact ⟨by rw [HR.out]; rfl, Below.refl _ _⟩

theorem next_any (s : ByteArray) (w : World) (hm : s.size ≤ 9223372036854775807) :
    Calls Try.prog 94 #[.string s] w fun e w' => e = .returned (.string ⟨(nextL s.data.toList).toArray⟩) ∧ Below w.heap.size w w' := by
  by_cases h : s.size < 8
  · exact next_short s w h
  · exact next_long s w (by omega) hm

end Go.Proofs.Ytaoibbakflacoaa

/- Package asks: copies, Concat, what a scan asks next. Conditions: a scan that is under way. -/
namespace Go.Proofs.Ytaoibbakflacoaa
open Go.RowKit Go.PlainAid
set_option linter.unusedVariables false
set_option linter.unusedSimpArgs false


theorem sl_butS {α : Type} {enc : α → List Value} {sz : Nat} {w x : World} {v : Value} {l : List α} {S : Nat → Prop} (h : SliceOf enc sz w v l) (hb : But S w x) (hv : l ≠ [] → ∀ k, v.ownBlock = some k → ¬ S k) : SliceOf enc sz x v l := by
  obtain ⟨ao, cap, rfl, h1, h2, h3, h4⟩ := h
  refine ⟨ao, cap, rfl, h1, h2, h3, fun j hj => ?_⟩
  obtain ⟨b, off, rfl, hr⟩ := h4 j hj
  exact ⟨b, off, rfl, fun i u hu => hb.cell (hv (fun e => by rw [e] at hj; exact absurd hj (by simp)) b rfl) (hr i u hu)⟩
theorem co_unroll {P : Program} {c : Code} {Q : Exit → Act → World → Prop} {n : Nat} {a : Act} {w : World} (h : c.wp P (Exit.then (Code.rounds P c Q n) Q) a w) : Code.rounds P c Q (n + 1) a w := h
/-- What a task that scans is about. -/
structure RdD where
  c : Int
  rq : Int
  nd : Int
  k0 : ByteArray
  to_ : ByteArray
  at0 : Int
  n : Int
  tm : Int
  key : ByteArray
  prs : List PrT
def mnI (a b : Int) : Int := if b < a then b else a
theorem mnI_p (a b : Int) : mnI a b ≤ a ∧ mnI a b ≤ b ∧ (mnI a b = a ∨ mnI a b = b) := by unfold mnI; split <;> omega
/-- How many pairs of a page are taken. -/
def pgN (d : RdD) (pl : List PrT) : Nat := (mnI (pl.length : Int) (mnI 2 (d.n - (d.prs.length : Int)))).toNat
def lastK (d : RdD) (pl : List PrT) : ByteArray := ((pl.take (pgN d pl))[(pl.take (pgN d pl)).length - 1]?.getD (⟨#[]⟩, ⟨#[]⟩)).1
def nxK (k : ByteArray) : ByteArray := ⟨(nextL k.data.toList).toArray⟩
/-- Does a page ask for another one? -/
def moreF (d : RdD) (fg : Bool) (pl : List PrT) : Bool := fg && decide (0 < (pl.take (pgN d pl)).length) && decide ((d.prs ++ pl.take (pgN d pl)).length < d.n.toNat) && !((nxK (lastK d pl)).toList == (⟨#[]⟩ : ByteArray).toList)
theorem pg_len (d : RdD) (pl : List PrT) (h : d.prs.length < d.n.toNat) : (pl.take (pgN d pl)).length = pgN d pl ∧ (pgN d pl : Int) = mnI (pl.length : Int) (mnI 2 (d.n - (d.prs.length : Int))) := by
  have h1 := mnI_p (pl.length : Int) (mnI 2 (d.n - (d.prs.length : Int)))
  have h2 := mnI_p 2 (d.n - (d.prs.length : Int))
  unfold pgN; rw [List.length_take]; omega
theorem last_of {d : RdD} {pl : List PrT} {y : PrT} {j : Nat} (hy : (pl.take (pgN d pl))[j]? = some y) (hj : j = (pl.take (pgN d pl)).length - 1) : lastK d pl = y.1 := by
  unfold lastK; rw [← hj, hy]; rfl
theorem more_y {d : RdD} {fg : Bool} {pl : List PrT} (h : moreF d fg pl = true) : fg = true ∧ 0 < (pl.take (pgN d pl)).length ∧ (d.prs ++ pl.take (pgN d pl)).length < d.n.toNat ∧ ((nxK (lastK d pl)).toList == (⟨#[]⟩ : ByteArray).toList) = false := by
  unfold moreF at h; simp only [Bool.and_eq_true, decide_eq_true_eq, Bool.not_eq_true'] at h; exact ⟨h.1.1.1, h.1.1.2, h.1.2, h.2⟩
theorem more_n {d : RdD} {fg : Bool} {pl : List PrT} (h : moreF d fg pl = false) (h1 : fg = true) (h2 : 0 < (pl.take (pgN d pl)).length) (h3 : (d.prs ++ pl.take (pgN d pl)).length < d.n.toNat) (h4 : ((nxK (lastK d pl)).toList == (⟨#[]⟩ : ByteArray).toList) = false) : False := by
  unfold moreF at h; rw [h1, decide_eq_true h2, decide_eq_true h3, h4] at h; cases h

set_option maxRecDepth 100000 in
theorem clonePr (v : Value) (l : List PrT) (w : World) (hs : SliceOf prE 2 w v l) (hlen : l.length ≤ 1000) :
    Calls Try.prog 33 #[v] w fun e w' => ∃ (u : Value), e = .returned (u) ∧ w'.ownsRow w.heap.size 57 2 u l.length (l.flatMap prE) ∧ Below w.heap.size w w' := by
 have hB0 := Below.refl w.heap.size w
 have hl_hs := sl_len hs
 have hs' := hs; obtain ⟨ao, cap, hv, _, _, h3, _⟩ := hs'; subst hv; rcases ao with _ | ad
 · obtain ⟨hl0, hc0⟩ := h3 rfl; obtain rfl : l = [] := List.eq_nil_of_length_eq_zero hl0; subst hc0
   refine co_enter (n := 8) Try.func33 rfl rfl rfl [(0, .slice none 0 0)] rfl (fun a h0 => ?_)
   refine co_seq ?_
   refine co_reg ?_
   refine pk0 (v := .slice none 0 0) h0 rfl fun a1 h1 => ?_; clear h0
   refine pl_nil ?_
   refine co_then ?_
   refine co_seq ?_
   refine co_seq ?_
   refine co_reg ?_
   refine pk0 (v := .slice none 0 0) h1 rfl fun a2 h2 => ?_; clear h1
   refine pk0 (v := .bool true) h2 rfl fun a3 h3 => ?_; clear h2
   refine pl_nil ?_
   refine co_then ?_
   refine co_true h3 rfl ?_
   refine co_seq ?_
   refine co_reg ?_
   refine pk0 (v := .slice none 0 0) h3 rfl fun a4 h4 => ?_; clear h3
   refine pl_nil ?_
   refine co_then ?_
   refine wp_ret ?_
   refine co_thenR ?_
   refine co_ret1 h4 rfl rfl ?_
   exact ⟨_, rfl, (row_nilL _ _ _ _ _), hB0⟩
 · skip
   refine co_enter (n := 8) Try.func33 rfl rfl rfl [(0, .slice (some ad) l.length cap)] rfl (fun a h0 => ?_)
   refine co_seq ?_
   refine co_reg ?_
   refine pk0 (v := .slice none 0 0) h0 rfl fun a5 h5 => ?_; clear h0
   refine pl_nil ?_
   refine co_then ?_
   refine co_seq ?_
   refine co_seq ?_
   refine co_reg ?_
   refine pk0 (v := .slice (some ad) l.length cap) h5 rfl fun a6 h6 => ?_; clear h5
   refine pk0 (v := .bool false) h6 rfl fun a7 h7 => ?_; clear h6
   refine pl_nil ?_
   refine co_then ?_
   refine co_false h7 rfl ?_
   refine wp_skip ?_
   refine co_then ?_
   refine co_seq ?_
   refine co_reg ?_
   refine pw h7 rfl (op_new (v := fun N => .slice (some ⟨N, 0, none⟩) 0 0) (T := 57) (cs := #[]) (by kernel_rfl) (by kernel_rfl) (by kernel_rfl)) ?_; clear h7
   rintro _ w9 a8 ⟨N10, rfl, hN13, hz14, hk12, hg11⟩ h8
   have hz15 := hg11.size
   try dsimp only at h8
   refine pk0 (v := .slice (some ad) l.length cap) h8 rfl fun a16 h16 => ?_; clear h8
   have hr19 := row_of_blkL hk12 (Nat.le_refl _) 2 prE
   have hB24 := hb_new hB0 hg11
   refine pw h16 rfl (op_appendSrc rfl N10 57 (z := .agg #[.string (⟨#[]⟩), .string (⟨#[]⟩)]) (size := 2) (bytes := 32) Try.underlying33 (by kernel_rfl) rfl rfl rfl hr19 rfl (hs.below hB24) (fun y hy => ⟨prE_len y, prE_one y⟩) (by first | omega | (simp only [List.length_nil, List.length_append, List.length_cons, List.length_take, List.length_drop]; omega)) (by first | omega | (simp only [List.length_nil, List.length_append, List.length_cons, List.length_take, List.length_drop]; omega)) (by omega)) ?_; clear h16
   rintro v20 w18 a17 ⟨hr21, hg22⟩ h17
   have hr21' : w18.ownsRow N10 57 2 v20 l.length (l.flatMap prE) := row_app (l := []) hr21; clear hr21
   have hz25 := hg22.size
   refine pk0 (v := v20) h17 rfl fun a26 h26 => ?_; clear h17
   refine pl_nil ?_
   refine co_then ?_
   refine wp_ret ?_
   refine co_ret1 h26 rfl rfl ?_
   have hB27 := hb_row hB24 hr19 (by omega) hg22
   exact ⟨_, rfl, (row_lows hr21' (by omega)), hB27⟩
set_option maxRecDepth 100000 in
theorem freshReply_any (r1 : Int) (r2 : Int) (r3 : Int) (r4 : Int) (v : Value) (l : List PrT) (w : World) (hs : SliceOf prE 2 w v l) (hlen : l.length ≤ 1000) :
    Calls Try.prog 23 #[.agg #[.int .i64 r1, .int .i64 r2, .int .u64 r3, .int .i64 r4, v]] w fun e w' => ∃ (u : Value), e = .returned (.agg #[.int .i64 r1, .int .i64 r2, .int .u64 r3, .int .i64 r4, u]) ∧ w'.ownsRow w.heap.size 57 2 u l.length (l.flatMap prE) ∧ Below w.heap.size w w' := by
 have hB0 := Below.refl w.heap.size w
 have hl_hs := sl_len hs
 refine co_enter (n := 8) Try.func23 rfl rfl rfl [(0, .agg #[.int .i64 r1, .int .i64 r2, .int .u64 r3, .int .i64 r4, v])] rfl (fun a h0 => ?_)
 refine co_seq ?_
 refine co_reg ?_
 refine pw h0 rfl (op_new (v := fun N => pt N 0) (T := 35) (cs := #[.int .i64 r1, .int .i64 r2, .int .u64 r3, .int .i64 r4, v]) (by kernel_rfl) (by kernel_rfl) (by kernel_rfl)) ?_; clear h0
 rintro _ w2 a1 ⟨N3, rfl, hN6, hz7, hk5, hg4⟩ h1
 have hz8 := hg4.size
 try dsimp only at h1
 refine pw h1 rfl (op_new (v := fun N => pt N 0) (T := 35) (cs := #[.int .i64 0, .int .i64 0, .int .u64 0, .int .i64 0, .slice none 0 0]) (by kernel_rfl) (by kernel_rfl) (by kernel_rfl)) ?_; clear h1
 rintro _ w10 a9 ⟨N11, rfl, hN14, hz15, hk13, hg12⟩ h9
 have hz16 := hg12.size
 try dsimp only at h9
 refine pl_nil ?_
 refine co_then ?_
 refine co_seq ?_
 refine co_reg ?_
 refine pk0 (v := pt N3 4) h9 rfl fun a17 h17 => ?_; clear h9
 have hk18 := hk5.kept hg12 (by simp)
 refine pk (v := v) h17 rfl (rn_load1 rfl rfl Try.isAgg33 (hk18.cell rfl)) fun a19 h19 => ?_; clear h17
 have hB22 := hb_new hB0 hg4
 have hB23 := hb_new hB22 hg12
 refine pw h19 rfl (op_call (args := #[v]) (R := fun res xw => ∃ u : Value, res = u ∧ xw.ownsRow w10.heap.size 57 2 u l.length (l.flatMap prE) ∧ Below w10.heap.size w10 xw) rfl rfl rfl (by kernel_rfl) (by kernel_rfl) (Try.call33 _ _) (clonePr v l w10 (hs.below hB23) (by first | omega | (simp; done) | (simp; omega))) (by rintro e x ⟨u, rfl, hq25, hb26⟩; exact ⟨_, rfl, ⟨u, rfl, hq25, hb26⟩⟩)) ?_; clear h19
 rintro u24 w21 a20 ⟨_, rfl, hq25, hb26⟩ h20
 have hz27 := hb26.size
 have hl28 := sl_len (row_sl hq25 prE_len)
 refine pk0 (v := pt N3 4) h20 rfl fun a29 h29 => ?_; clear h20
 have hk35 := hk18.below hb26
 refine pwD h29 rfl (op_store1 rfl rfl rfl (row_one hq25) Try.sizeOf33 hk35 rfl) ?_; clear h29
 rintro _ w31 a30 ⟨hk32, hz33, hg34⟩ h30
 have hk32' : Blk w31 N3 35 #[.int .i64 r1, .int .i64 r2, .int .u64 r3, .int .i64 r4, u24] := hk32; clear hk32
 have hz36 := hg34.size
 refine pl_nil ?_
 refine co_then ?_
 refine co_seq ?_
 refine co_reg ?_
 refine pk (v := .agg #[.int .i64 r1, .int .i64 r2, .int .u64 r3, .int .i64 r4, u24]) h30 rfl (rn_loadN rfl rfl Try.underlying35 rfl (by kernel_rfl) hk32'.all) fun a37 h37 => ?_; clear h30
 have hr43 := row_kept_at hq25 hg34 (own_neT hq25 hk35 (by decide))
 have hk44 := hk13.below hb26
 have hk45 := hk44.kept hg34 (by simp; omega)
 refine pwD h37 rfl (op_storeN rfl rfl rfl (all_cons rfl (all_cons rfl (all_cons rfl (all_cons rfl (all_cons (row_one hr43) all_nil))))) (by kernel_rfl) hk45 rfl) ?_; clear h37
 rintro _ w39 a38 ⟨hk40, hz41, hg42⟩ h38
 have hk40' : Blk w39 N11 35 #[.int .i64 r1, .int .i64 r2, .int .u64 r3, .int .i64 r4, u24] := hk40; clear hk40
 have hz46 := hg42.size
 refine pl_nil ?_
 refine co_then ?_
 refine wp_ret ?_
 refine co_retC (Q := fun _ _ _ => True) h38 rfl rfl hk40' Try.underlying35 rfl (by kernel_rfl) ?_
 have hr47 := row_kept_at hr43 hg42 (own_neT hr43 hk45 (by decide))
 have hB48 := hb_call hB23 hb26
 have hB49 := hb_at hB48 hg34 (by omega)
 have hB50 := hb_at hB49 hg42 (by omega)
 exact ⟨_, rfl, (row_lows hr47 (by omega)), hB50⟩
set_option maxRecDepth 100000 in
set_option maxHeartbeats 1600000 in
theorem concatPr (N : Nat) (u : Value) (la : List PrT) (v : Value) (lc : List PrT) (w : World) (hb : Blk w N 33 #[u, v]) (hs : SliceOf prE 2 w u la) (hs2 : SliceOf prE 2 w v lc) (hlen : la.length + lc.length ≤ 1000) :
    Calls Try.prog 93 #[.slice (some ⟨N, 0, none⟩) 2 2] w fun e w' => ∃ (r : Value), e = .returned (r) ∧ w'.ownsRow w.heap.size 57 2 r (la ++ lc).length ((la ++ lc).flatMap prE) ∧ Below w.heap.size w w' := by
 have hB0 := Below.refl w.heap.size w
 have hl_hb := hb.lt
 have hl_hs := sl_len hs
 have hl_hs2 := sl_len hs2
 refine co_enter (n := 36) Try.func93 rfl rfl rfl [(0, .slice (some ⟨N, 0, none⟩) 2 2)] rfl (fun a h0 => ?_)
 refine co_seq ?_
 refine co_reg ?_
 refine pk0 (v := .slice none 0 0) h0 rfl fun a1 h1 => ?_; clear h0
 refine pl_nil ?_
 refine co_then ?_
 refine co_seq ?_
 refine co_reg ?_
 refine pk0 (v := .int .i64 0) h1 rfl fun a2 h2 => ?_; clear h1
 refine pl_nil ?_
 refine co_then ?_
 refine co_seq ?_
 refine co_seq ?_
 refine co_reg ?_
 refine pk0 (v := .slice (some ⟨N, 0, none⟩) 2 2) h2 rfl fun a3 h3 => ?_; clear h2
 refine pk0 (v := .int .i64 2) h3 rfl fun a4 h4 => ?_; clear h3
 refine pk0 (v := .int .i64 0) h4 rfl fun a5 h5 => ?_; clear h4
 refine pl_nil ?_
 refine co_then ?_
 refine wp_block ?_
 refine wp_loop_rounds 3 ?_
 refine co_unroll (n := 2) ?_
 refine co_seq ?_
 refine co_reg ?_
 refine pk0 (v := .bool (decide (0 < 2))) h5 rfl fun a6 h6 => ?_; clear h5
 refine pl_nil ?_
 refine co_then ?_
 refine co_seq ?_
 have hc7 : (decide (0 < 2)) = true := decide_eq_true (by omega)
 rw [hc7] at h6; clear hc7
 refine co_true h6 rfl ?_
 refine wp_skip ?_
 refine co_then ?_
 refine co_seq ?_
 refine wp_block ?_
 refine co_seq ?_
 refine co_reg ?_
 refine pk0 (v := pt N 0) h6 rfl fun a8 h8 => ?_; clear h6
 refine pk (v := u) h8 rfl (rn_load1 rfl rfl Try.isAgg33 (hb.cell rfl)) fun a9 h9 => ?_; clear h8
 refine pk0 (v := u) h9 rfl fun a10 h10 => ?_; clear h9
 refine pl_nil ?_
 refine co_then ?_
 refine co_seq ?_
 refine co_reg ?_
 refine pk0 (v := .int .i64 0) h10 rfl fun a11 h11 => ?_; clear h10
 refine pk0 (v := u) h11 rfl fun a12 h12 => ?_; clear h11
 refine pk (v := .int .i64 ((la.length : Nat) : Int)) h12 rfl (rn_len rfl rfl Try.underlying33 hs) fun a13 h13 => ?_; clear h12
 refine pk (v := .int .i64 (0 + ((la.length : Nat) : Int))) h13 rfl (rn_arith rfl rfl rfl rfl rfl rfl (IntWalk.i64_in _ (by omega))) fun a14 h14 => ?_; clear h13
 refine pk0 (v := .int .i64 (0 + ((la.length : Nat) : Int))) h14 rfl fun a15 h15 => ?_; clear h14
 refine pl_nil ?_
 refine co_then ?_
 refine co_seq ?_
 refine co_reg ?_
 refine pk0 (v := .int .i64 (0 + ((la.length : Nat) : Int))) h15 rfl fun a16 h16 => ?_; clear h15
 refine pk0 (v := .bool (decide (0 + ((la.length : Nat) : Int) < 0))) h16 rfl fun a17 h17 => ?_; clear h16
 refine pl_nil ?_
 refine co_then ?_
 have hc18 : (decide (0 + ((la.length : Nat) : Int) < 0)) = false := decide_eq_false (by omega)
 rw [hc18] at h17; clear hc18
 refine co_false h17 rfl ?_
 refine wp_skip ?_
 refine co_blockN ?_
 refine co_then ?_
 refine co_reg ?_
 refine pk0 (v := .int .i64 1) h17 rfl fun a19 h19 => ?_; clear h17
 refine pk0 (v := .int .i64 1) h19 rfl fun a20 h20 => ?_; clear h19
 refine pl_nil ?_
 refine co_then ?_
 refine co_unroll (n := 1) ?_
 refine co_seq ?_
 refine co_reg ?_
 refine pk0 (v := .bool (decide (1 < 2))) h20 rfl fun a21 h21 => ?_; clear h20
 refine pl_nil ?_
 refine co_then ?_
 refine co_seq ?_
 have hc22 : (decide (1 < 2)) = true := decide_eq_true (by omega)
 rw [hc22] at h21; clear hc22
 refine co_true h21 rfl ?_
 refine wp_skip ?_
 refine co_then ?_
 refine co_seq ?_
 refine wp_block ?_
 refine co_seq ?_
 refine co_reg ?_
 refine pk0 (v := pt N 1) h21 rfl fun a23 h23 => ?_; clear h21
 refine pk (v := v) h23 rfl (rn_load1 rfl rfl Try.isAgg33 (hb.cell rfl)) fun a24 h24 => ?_; clear h23
 refine pk0 (v := v) h24 rfl fun a25 h25 => ?_; clear h24
 refine pl_nil ?_
 refine co_then ?_
 refine co_seq ?_
 refine co_reg ?_
 refine pk0 (v := .int .i64 (0 + ((la.length : Nat) : Int))) h25 rfl fun a26 h26 => ?_; clear h25
 refine pk0 (v := v) h26 rfl fun a27 h27 => ?_; clear h26
 refine pk (v := .int .i64 ((lc.length : Nat) : Int)) h27 rfl (rn_len rfl rfl Try.underlying33 hs2) fun a28 h28 => ?_; clear h27
 refine pk (v := .int .i64 ((0 + ((la.length : Nat) : Int)) + ((lc.length : Nat) : Int))) h28 rfl (rn_arith rfl rfl rfl rfl rfl rfl (IntWalk.i64_in _ (by omega))) fun a29 h29 => ?_; clear h28
 refine pk0 (v := .int .i64 ((0 + ((la.length : Nat) : Int)) + ((lc.length : Nat) : Int))) h29 rfl fun a30 h30 => ?_; clear h29
 refine pl_nil ?_
 refine co_then ?_
 refine co_seq ?_
 refine co_reg ?_
 refine pk0 (v := .int .i64 ((0 + ((la.length : Nat) : Int)) + ((lc.length : Nat) : Int))) h30 rfl fun a31 h31 => ?_; clear h30
 refine pk0 (v := .bool (decide ((0 + ((la.length : Nat) : Int)) + ((lc.length : Nat) : Int) < 0))) h31 rfl fun a32 h32 => ?_; clear h31
 refine pl_nil ?_
 refine co_then ?_
 have hc33 : (decide ((0 + ((la.length : Nat) : Int)) + ((lc.length : Nat) : Int) < 0)) = false := decide_eq_false (by omega)
 rw [hc33] at h32; clear hc33
 refine co_false h32 rfl ?_
 refine wp_skip ?_
 refine co_blockN ?_
 refine co_then ?_
 refine co_reg ?_
 refine pk0 (v := .int .i64 2) h32 rfl fun a34 h34 => ?_; clear h32
 refine pk0 (v := .int .i64 2) h34 rfl fun a35 h35 => ?_; clear h34
 refine pl_nil ?_
 refine co_then ?_
 refine co_unroll (n := 0) ?_
 refine co_seq ?_
 refine co_reg ?_
 refine pk0 (v := .bool (decide (2 < 2))) h35 rfl fun a36 h36 => ?_; clear h35
 refine pl_nil ?_
 refine co_then ?_
 refine co_seq ?_
 have hc37 : (decide (2 < 2)) = false := decide_eq_false (by omega)
 rw [hc37] at h36; clear hc37
 refine co_false h36 rfl ?_
 refine wp_exit ?_
 refine co_thenX ?_
 refine co_thenX ?_
 refine co_blockX ?_
 refine co_then ?_
 refine co_seq ?_
 refine co_reg ?_
 refine pk0 (v := .int .i64 ((0 + ((la.length : Nat) : Int)) + ((lc.length : Nat) : Int))) h36 rfl fun a38 h38 => ?_; clear h36
 refine pw h38 rfl (op_call (args := #[.slice none 0 0, .int .i64 ((0 + ((la.length : Nat) : Int)) + ((lc.length : Nat) : Int))]) (R := fun res xw => ∃ u : Value, res = u ∧ xw.ownsRow w.heap.size 57 2 u ([] : List PrT).length (([] : List PrT).flatMap prE) ∧ Below w.heap.size w xw) rfl rfl rfl (by kernel_rfl) (by kernel_rfl) (Try.call95 _ _) (growNilPI ((0 + ((la.length : Nat) : Int)) + ((lc.length : Nat) : Int)) (by omega) (by omega) w) (by rintro e x ⟨u, rfl, h⟩; exact ⟨_, rfl, u, rfl, h⟩)) ?_; clear h38
 rintro u41 w40 a39 ⟨_, rfl, hr42, hb43⟩ h39
 have hz44 := hb43.size
 refine pk0 (v := u41) h39 rfl fun a45 h45 => ?_; clear h39
 refine pl_nil ?_
 refine co_then ?_
 refine co_seq ?_
 refine co_seq ?_
 refine co_reg ?_
 refine pk0 (v := .slice (some ⟨N, 0, none⟩) 2 2) h45 rfl fun a46 h46 => ?_; clear h45
 refine pk0 (v := .int .i64 2) h46 rfl fun a47 h47 => ?_; clear h46
 refine pk0 (v := .int .i64 0) h47 rfl fun a48 h48 => ?_; clear h47
 refine pl_nil ?_
 refine co_then ?_
 refine wp_block ?_
 refine wp_loop_rounds 3 ?_
 refine co_unroll (n := 2) ?_
 refine co_seq ?_
 refine co_reg ?_
 refine pk0 (v := .bool (decide (0 < 2))) h48 rfl fun a49 h49 => ?_; clear h48
 refine pl_nil ?_
 refine co_then ?_
 refine co_seq ?_
 have hc50 : (decide (0 < 2)) = true := decide_eq_true (by omega)
 rw [hc50] at h49; clear hc50
 refine co_true h49 rfl ?_
 refine wp_skip ?_
 refine co_then ?_
 refine co_seq ?_
 refine wp_block ?_
 refine co_seq ?_
 refine co_reg ?_
 refine pk0 (v := pt N 0) h49 rfl fun a51 h51 => ?_; clear h49
 have hk52 := hb.below hb43
 refine pk (v := u) h51 rfl (rn_load1 rfl rfl Try.isAgg33 (hk52.cell rfl)) fun a53 h53 => ?_; clear h51
 refine pk0 (v := u) h53 rfl fun a54 h54 => ?_; clear h53
 refine pl_nil ?_
 refine co_then ?_
 refine co_reg ?_
 refine pk0 (v := u41) h54 rfl fun a55 h55 => ?_; clear h54
 refine pk0 (v := u) h55 rfl fun a56 h56 => ?_; clear h55
 have hB63 := hb_call hB0 hb43
 refine pw h56 rfl (op_appendSrc rfl w.heap.size 57 (z := .agg #[.string (⟨#[]⟩), .string (⟨#[]⟩)]) (size := 2) (bytes := 32) Try.underlying33 (by kernel_rfl) rfl rfl rfl hr42 rfl (hs.below hB63) (fun y hy => ⟨prE_len y, prE_one y⟩) (by first | omega | (simp only [List.length_nil, List.length_append, List.length_cons, List.length_take, List.length_drop]; omega)) (by first | omega | (simp only [List.length_nil, List.length_append, List.length_cons, List.length_take, List.length_drop]; omega)) (by omega)) ?_; clear h56
 rintro v59 w58 a57 ⟨hr60, hg61⟩ h57
 have hr60' : w58.ownsRow w.heap.size 57 2 v59 ((([] : List PrT) ++ la).length) ((([] : List PrT) ++ la).flatMap prE) := row_app hr60; clear hr60
 have hz64 := hg61.size
 refine pk0 (v := v59) h57 rfl fun a65 h65 => ?_; clear h57
 refine pl_nil ?_
 refine co_blockN ?_
 refine co_then ?_
 refine co_reg ?_
 refine pk0 (v := .int .i64 1) h65 rfl fun a66 h66 => ?_; clear h65
 refine pk0 (v := .int .i64 1) h66 rfl fun a67 h67 => ?_; clear h66
 refine pl_nil ?_
 refine co_then ?_
 refine co_unroll (n := 1) ?_
 refine co_seq ?_
 refine co_reg ?_
 refine pk0 (v := .bool (decide (1 < 2))) h67 rfl fun a68 h68 => ?_; clear h67
 refine pl_nil ?_
 refine co_then ?_
 refine co_seq ?_
 have hc69 : (decide (1 < 2)) = true := decide_eq_true (by omega)
 rw [hc69] at h68; clear hc69
 refine co_true h68 rfl ?_
 refine wp_skip ?_
 refine co_then ?_
 refine co_seq ?_
 refine wp_block ?_
 refine co_seq ?_
 refine co_reg ?_
 refine pk0 (v := pt N 1) h68 rfl fun a70 h70 => ?_; clear h68
 have hk71 := hk52.kept hg61 (own_neT hr42 hk52 (by decide))
 refine pk (v := v) h70 rfl (rn_load1 rfl rfl Try.isAgg33 (hk71.cell rfl)) fun a72 h72 => ?_; clear h70
 refine pk0 (v := v) h72 rfl fun a73 h73 => ?_; clear h72
 refine pl_nil ?_
 refine co_then ?_
 refine co_reg ?_
 refine pk0 (v := v59) h73 rfl fun a74 h74 => ?_; clear h73
 refine pk0 (v := v) h74 rfl fun a75 h75 => ?_; clear h74
 have hB82 := hb_row hB63 hr42 (by omega) hg61
 refine pw h75 rfl (op_appendSrc rfl w.heap.size 57 (z := .agg #[.string (⟨#[]⟩), .string (⟨#[]⟩)]) (size := 2) (bytes := 32) Try.underlying33 (by kernel_rfl) rfl rfl rfl hr60' rfl (hs2.below hB82) (fun y hy => ⟨prE_len y, prE_one y⟩) (by first | omega | (simp only [List.length_nil, List.length_append, List.length_cons, List.length_take, List.length_drop]; omega)) (by first | omega | (simp only [List.length_nil, List.length_append, List.length_cons, List.length_take, List.length_drop]; omega)) (by omega)) ?_; clear h75
 rintro v78 w77 a76 ⟨hr79, hg80⟩ h76
 have hr79' : w77.ownsRow w.heap.size 57 2 v78 ((([] : List PrT) ++ la ++ lc).length) ((([] : List PrT) ++ la ++ lc).flatMap prE) := row_app hr79; clear hr79
 have hz83 := hg80.size
 refine pk0 (v := v78) h76 rfl fun a84 h84 => ?_; clear h76
 refine pl_nil ?_
 refine co_blockN ?_
 refine co_then ?_
 refine co_reg ?_
 refine pk0 (v := .int .i64 2) h84 rfl fun a85 h85 => ?_; clear h84
 refine pk0 (v := .int .i64 2) h85 rfl fun a86 h86 => ?_; clear h85
 refine pl_nil ?_
 refine co_then ?_
 refine co_unroll (n := 0) ?_
 refine co_seq ?_
 refine co_reg ?_
 refine pk0 (v := .bool (decide (2 < 2))) h86 rfl fun a87 h87 => ?_; clear h86
 refine pl_nil ?_
 refine co_then ?_
 refine co_seq ?_
 have hc88 : (decide (2 < 2)) = false := decide_eq_false (by omega)
 rw [hc88] at h87; clear hc88
 refine co_false h87 rfl ?_
 refine wp_exit ?_
 refine co_thenX ?_
 refine co_thenX ?_
 refine co_blockX ?_
 refine co_then ?_
 refine co_seq ?_
 refine co_reg ?_
 refine pk0 (v := v78) h87 rfl fun a89 h89 => ?_; clear h87
 refine pk0 (v := v78) h89 rfl fun a90 h90 => ?_; clear h89
 refine pl_nil ?_
 refine co_then ?_
 refine wp_ret ?_
 refine co_ret1 h90 rfl rfl ?_
 have hB91 := hb_row hB82 hr60' (by omega) hg80
 exact ⟨_, rfl, (row_lows hr79' (by omega)), hB91⟩
set_option maxRecDepth 100000 in
theorem aLacks_any (B : Nat) (d : RdD) (ov : Value) (pv : Value) (w : World) (hB : Blk w B 77 #[.int .i64 d.c, .int .i64 d.rq, .int .i64 2, .int .i64 d.nd, .string d.k0, .string d.to_, .int .u64 d.at0, .int .i64 d.n, ov, .int .u64 d.tm, .string d.key, pv]) (hp : SliceOf prE 2 w pv d.prs) (hn : 0 ≤ d.n ∧ d.n ≤ 32) (hpn : d.prs.length < d.n.toNat) :
    Calls Try.prog 88 #[pt B 0] w fun e w' => e = .returned (.int .i64 (d.n - (d.prs.length : Int))) ∧ Below w.heap.size w w' := by
 have hpm : (d.prs.length : Int) < d.n := by omega
 have hB0 := Below.refl w.heap.size w
 have hl_hB := hB.lt
 have hl_hp := sl_len hp
 refine co_enter (n := 15) Try.func88 rfl rfl rfl [(0, pt B 0)] rfl (fun a h0 => ?_)
 refine co_seq ?_
 refine co_reg ?_
 refine pk0 (v := .int .i64 0) h0 rfl fun a1 h1 => ?_; clear h0
 refine pl_nil ?_
 refine co_then ?_
 refine co_seq ?_
 refine dr_eq (by kernel_rfl) (fun w2 hg3 => ?_)
 have hz4 := hg3.size
 refine dk0 0 (v := pt B 0) h1 rfl rfl rfl fun a5 h5 => ?_; clear h1
 refine dk0 1 (v := pt B 0) h5 rfl rfl rfl fun a6 h6 => ?_; clear h5
 refine dk0 2 (v := pt B 0) h6 rfl rfl rfl fun a7 h7 => ?_; clear h6
 refine dk0 3 (v := pt B 2) h7 rfl rfl rfl fun a8 h8 => ?_; clear h7
 refine dk0 4 (v := pt B 7) h8 rfl rfl rfl fun a9 h9 => ?_; clear h8
 have hk10 := hB.kept hg3 (by simp)
 refine dk 5 (v := .int .i64 d.n) h9 rfl rfl rfl (fun x hx => by subst hx; exact (rn_load1 rfl rfl Try.isAgg3 (hk10.cell rfl))) fun a11 h11 => ?_; clear h9
 refine dk0 6 (v := pt B 0) h11 rfl rfl rfl fun a12 h12 => ?_; clear h11
 refine dk0 7 (v := pt B 0) h12 rfl rfl rfl fun a13 h13 => ?_; clear h12
 refine dk0 8 (v := pt B 11) h13 rfl rfl rfl fun a14 h14 => ?_; clear h13
 refine dk 9 (v := pv) h14 rfl rfl rfl (fun x hx => by subst hx; exact (rn_load1 rfl rfl Try.isAgg33 (hk10.cell rfl))) fun a15 h15 => ?_; clear h14
 have hB16 := hb_new hB0 hg3
 refine dk 10 (v := .int .i64 ((d.prs.length : Nat) : Int)) h15 rfl rfl rfl (fun x hx => by subst hx; exact (rn_len rfl rfl Try.underlying33 (hp.below hB16))) fun a17 h17 => ?_; clear h15
 refine dk 11 (v := .int .i64 (d.n - ((d.prs.length : Nat) : Int))) h17 rfl rfl rfl (fun x hx => by subst hx; exact (rn_arith rfl rfl rfl rfl rfl rfl (IntWalk.i64_in _ (by omega)))) fun a18 h18 => ?_; clear h17
 refine dk0 12 (v := .int .i64 (d.n - ((d.prs.length : Nat) : Int))) h18 rfl rfl rfl fun a19 h19 => ?_; clear h18
 refine dr_done (by kernel_rfl) ?_
 refine co_then ?_
 refine wp_ret ?_
 refine co_ret1 h19 rfl rfl ?_
 exact ⟨ret_int (by omega), hB16⟩
set_option maxRecDepth 100000 in
theorem aNext_any (B : Nat) (d : RdD) (ov : Value) (pv : Value) (ep : Int) (hd : Int) (w : World) (hB : Blk w B 77 #[.int .i64 d.c, .int .i64 d.rq, .int .i64 2, .int .i64 d.nd, .string d.k0, .string d.to_, .int .u64 d.at0, .int .i64 d.n, ov, .int .u64 d.tm, .string d.key, pv]) (hp : SliceOf prE 2 w pv d.prs) (hn : 0 ≤ d.n ∧ d.n ≤ 32) (hpn : d.prs.length < d.n.toNat) :
    Calls Try.prog 89 #[pt B 0, .int .i64 ep, .int .i64 hd] w fun e w' => e = .returned (.tuple #[.int .i64 d.nd, .agg #[.int .i64 9, .int .i64 0, .int .i64 d.rq, .int .i64 0, .bool false, .int .u64 d.tm, .int .u64 0, .int .i64 (mnI 2 (d.n - (d.prs.length : Int))), .int .i64 0, .int .i64 0, .int .i64 0, .string d.key, .string d.to_, .int .i64 0, .slice none 0 0, .int .u64 0, .int .i64 0, .int .i64 0, .slice none 0 0, .slice none 0 0, .slice none 0 0, .slice none 0 0]]) ∧ Below w.heap.size w w' := by
 have hpm : (d.prs.length : Int) < d.n := by omega
 have hB0 := Below.refl w.heap.size w
 have hl_hB := hB.lt
 have hl_hp := sl_len hp
 refine co_enter (n := 64) Try.func89 rfl rfl rfl [(0, pt B 0), (1, .int .i64 ep), (2, .int .i64 hd)] rfl (fun a h0 => ?_)
 refine co_seq ?_
 refine co_reg ?_
 refine pk0 (v := .int .i64 0) h0 rfl fun a1 h1 => ?_; clear h0
 refine pw h1 rfl (op_new (v := fun N => pt N 0) (T := 46) (cs := #[.int .i64 0, .int .i64 0, .int .i64 0, .int .i64 0, .bool false, .int .u64 0, .int .u64 0, .int .i64 0, .int .i64 0, .int .i64 0, .int .i64 0, .string (⟨#[]⟩), .string (⟨#[]⟩), .int .i64 0, .slice none 0 0, .int .u64 0, .int .i64 0, .int .i64 0, .slice none 0 0, .slice none 0 0, .slice none 0 0, .slice none 0 0]) (by kernel_rfl) (by kernel_rfl) (by kernel_rfl)) ?_; clear h1
 rintro _ w3 a2 ⟨N4, rfl, hN7, hz8, hk6, hg5⟩ h2
 have hz9 := hg5.size
 try dsimp only at h2
 refine pl_nil ?_
 refine co_then ?_
 refine co_seq ?_
 refine co_seq ?_
 refine co_reg ?_
 refine pk0 (v := pt B 0) h2 rfl fun a10 h10 => ?_; clear h2
 refine pk0 (v := pt B 0) h10 rfl fun a11 h11 => ?_; clear h10
 refine pk0 (v := pt B 0) h11 rfl fun a12 h12 => ?_; clear h11
 refine pk0 (v := pt B 2) h12 rfl fun a13 h13 => ?_; clear h12
 refine pk0 (v := pt B 2) h13 rfl fun a14 h14 => ?_; clear h13
 have hk15 := hB.kept hg5 (by simp)
 refine pk (v := .int .i64 2) h14 rfl (rn_load1 rfl rfl Try.isAgg3 (hk15.cell rfl)) fun a16 h16 => ?_; clear h14
 refine pk0 (v := .bool ((2 : Int) != 2)) h16 rfl fun a17 h17 => ?_; clear h16
 refine pl_nil ?_
 refine co_then ?_
 have hc18 : ((2 : Int) != 2) = false := by first | (simp; done) | (simp; omega) | exact beq_false_of_ne (by omega) | exact beq_iff_eq.2 (by omega)
 rw [hc18] at h17; clear hc18
 refine co_false h17 rfl ?_
 refine wp_skip ?_
 refine co_then ?_
 refine co_seq ?_
 refine dr_gen (fun x => Below w.heap.size w x ∧ Blk x B 77 #[.int .i64 d.c, .int .i64 d.rq, .int .i64 2, .int .i64 d.nd, .string d.k0, .string d.to_, .int .u64 d.at0, .int .i64 d.n, ov, .int .u64 d.tm, .string d.key, pv]) (by kernel_rfl) (fun w19 hg20 => ?_) (fun w19 hg20 => ?_)
 ·
  have hz21 := hg20.size
  have hB22 := hb_new hB0 hg5
  have hB23 := hb_new hB22 hg20
  have hk24 := hk15.kept hg20 (by simp)
  exact ⟨hB23, hk24⟩
 have hz25 := hg20.size
 have hB26 := hb_new hB0 hg5
 have hB27 := hb_new hB26 hg20
 have hk28 := hk15.kept hg20 (by simp)
 refine dk0 0 (v := pt B 0) h17 rfl rfl ⟨hB27, hk28⟩ fun a29 h29 => ?_; clear h17
 refine dk0 1 (v := pt B 0) h29 rfl rfl ⟨hB27, hk28⟩ fun a30 h30 => ?_; clear h29
 refine dk0 2 (v := pt B 0) h30 rfl rfl ⟨hB27, hk28⟩ fun a31 h31 => ?_; clear h30
 refine dk0 3 (v := pt B 2) h31 rfl rfl ⟨hB27, hk28⟩ fun a32 h32 => ?_; clear h31
 refine dk0 4 (v := pt B 3) h32 rfl rfl ⟨hB27, hk28⟩ fun a33 h33 => ?_; clear h32
 refine dk 5 (v := .int .i64 d.nd) h33 rfl rfl ⟨hB27, hk28⟩ (fun x hx => (rn_load1 rfl rfl Try.isAgg3 (hx.2.cell rfl))) fun a34 h34 => ?_; clear h33
 refine dk0 6 (v := pt B 0) h34 rfl rfl ⟨hB27, hk28⟩ fun a35 h35 => ?_; clear h34
 refine dk0 7 (v := pt B 0) h35 rfl rfl ⟨hB27, hk28⟩ fun a36 h36 => ?_; clear h35
 refine dk0 8 (v := pt B 0) h36 rfl rfl ⟨hB27, hk28⟩ fun a37 h37 => ?_; clear h36
 refine dk0 9 (v := pt B 1) h37 rfl rfl ⟨hB27, hk28⟩ fun a38 h38 => ?_; clear h37
 refine dk 10 (v := .int .i64 d.rq) h38 rfl rfl ⟨hB27, hk28⟩ (fun x hx => (rn_load1 rfl rfl Try.isAgg3 (hx.2.cell rfl))) fun a39 h39 => ?_; clear h38
 refine dk0 11 (v := pt B 0) h39 rfl rfl ⟨hB27, hk28⟩ fun a40 h40 => ?_; clear h39
 refine dk0 12 (v := pt B 0) h40 rfl rfl ⟨hB27, hk28⟩ fun a41 h41 => ?_; clear h40
 refine dk0 13 (v := pt B 10) h41 rfl rfl ⟨hB27, hk28⟩ fun a42 h42 => ?_; clear h41
 refine dk 14 (v := .string d.key) h42 rfl rfl ⟨hB27, hk28⟩ (fun x hx => (rn_load1 rfl rfl Try.isAgg9 (hx.2.cell rfl))) fun a43 h43 => ?_; clear h42
 refine dk0 15 (v := pt B 0) h43 rfl rfl ⟨hB27, hk28⟩ fun a44 h44 => ?_; clear h43
 refine dk0 16 (v := pt B 0) h44 rfl rfl ⟨hB27, hk28⟩ fun a45 h45 => ?_; clear h44
 refine dk0 17 (v := pt B 0) h45 rfl rfl ⟨hB27, hk28⟩ fun a46 h46 => ?_; clear h45
 refine dk0 18 (v := pt B 2) h46 rfl rfl ⟨hB27, hk28⟩ fun a47 h47 => ?_; clear h46
 refine dk0 19 (v := pt B 5) h47 rfl rfl ⟨hB27, hk28⟩ fun a48 h48 => ?_; clear h47
 refine dk 20 (v := .string d.to_) h48 rfl rfl ⟨hB27, hk28⟩ (fun x hx => (rn_load1 rfl rfl Try.isAgg9 (hx.2.cell rfl))) fun a49 h49 => ?_; clear h48
 refine dk0 21 (v := pt B 0) h49 rfl rfl ⟨hB27, hk28⟩ fun a50 h50 => ?_; clear h49
 refine dk0 22 (v := pt B 0) h50 rfl rfl ⟨hB27, hk28⟩ fun a51 h51 => ?_; clear h50
 refine dk0 23 (v := pt B 9) h51 rfl rfl ⟨hB27, hk28⟩ fun a52 h52 => ?_; clear h51
 refine dk 24 (v := .int .u64 d.tm) h52 rfl rfl ⟨hB27, hk28⟩ (fun x hx => (rn_load1 rfl rfl Try.isAgg22 (hx.2.cell rfl))) fun a53 h53 => ?_; clear h52
 refine dk0 25 (v := pt B 0) h53 rfl rfl ⟨hB27, hk28⟩ fun a54 h54 => ?_; clear h53
 refine d1 26 h54 rfl rfl (op_call (args := #[pt B 0]) (R := fun res xw => res = .int .i64 (d.n - (d.prs.length : Int)) ∧ Below w19.heap.size w19 xw) rfl rfl rfl (by kernel_rfl) (by kernel_rfl) (Try.call88 _ _) (aLacks_any B d ov pv w19 hk28 (hp.below hB27) (by first | omega | (simp; done) | (simp; omega)) (by first | omega | (simp; done) | (simp; omega))) (by rintro e x ⟨rfl, hb57⟩; exact ⟨_, rfl, ⟨rfl, hb57⟩⟩)) ?_ ?_; clear h54
 ·
  rintro _ w56 ⟨rfl, hb57⟩
  have hz58 := hb57.size
  have hB59 := hb_call hB27 hb57
  have hk60 := hk28.below hb57
  exact ⟨hB59, hk60⟩
 rintro _ w56 a55 ⟨rfl, hb57⟩ h55
 have hz58 := hb57.size
 have hB59 := hb_call hB27 hb57
 have hk60 := hk28.below hb57
 have hmm61 := mnI_p 2 (d.n - (d.prs.length : Int))
 refine dk0 27 (v := .int .i64 (mnI 2 (d.n - (d.prs.length : Int)))) h55 rfl rfl ⟨hB59, hk60⟩ fun a62 h62 => ?_; clear h55
 refine dk0 28 (v := .agg #[.int .i64 9, .int .i64 0, .int .i64 d.rq, .int .i64 0, .bool false, .int .u64 d.tm, .int .u64 0, .int .i64 (mnI 2 (d.n - (d.prs.length : Int))), .int .i64 0, .int .i64 0, .int .i64 0, .string d.key, .string d.to_, .int .i64 0, .slice none 0 0, .int .u64 0, .int .i64 0, .int .i64 0, .slice none 0 0, .slice none 0 0, .slice none 0 0, .slice none 0 0]) h62 rfl rfl ⟨hB59, hk60⟩ fun a63 h63 => ?_; clear h62
 refine dk0 29 (v := .int .i64 d.nd) h63 rfl rfl ⟨hB59, hk60⟩ fun a64 h64 => ?_; clear h63
 have hk70 := hk6.kept hg20 (by simp)
 have hk71 := hk70.below hb57
 refine d1D 30 h64 rfl rfl (op_storeN rfl rfl rfl (all_cons rfl (all_cons rfl (all_cons rfl (all_cons rfl (all_cons rfl (all_cons rfl (all_cons rfl (all_cons rfl (all_cons rfl (all_cons rfl (all_cons rfl (all_cons rfl (all_cons rfl (all_cons rfl (all_cons rfl (all_cons rfl (all_cons rfl (all_cons rfl (all_cons rfl (all_cons rfl (all_cons rfl (all_cons rfl all_nil)))))))))))))))))))))) (by kernel_rfl) hk71 rfl) ?_ ?_; clear h64
 ·
  rintro _ w66 ⟨hk67, hz68, hg69⟩
  have hk67' : Blk w66 N4 46 #[.int .i64 9, .int .i64 0, .int .i64 d.rq, .int .i64 0, .bool false, .int .u64 d.tm, .int .u64 0, .int .i64 (mnI 2 (d.n - (d.prs.length : Int))), .int .i64 0, .int .i64 0, .int .i64 0, .string d.key, .string d.to_, .int .i64 0, .slice none 0 0, .int .u64 0, .int .i64 0, .int .i64 0, .slice none 0 0, .slice none 0 0, .slice none 0 0, .slice none 0 0] := hk67; clear hk67
  have hz72 := hg69.size
  have hB73 := hb_at hB59 hg69 (by omega)
  have hk74 := hk60.kept hg69 (by simp; omega)
  exact ⟨hB73, hk74⟩
 rintro _ w66 a65 ⟨hk67, hz68, hg69⟩ h65
 have hk67' : Blk w66 N4 46 #[.int .i64 9, .int .i64 0, .int .i64 d.rq, .int .i64 0, .bool false, .int .u64 d.tm, .int .u64 0, .int .i64 (mnI 2 (d.n - (d.prs.length : Int))), .int .i64 0, .int .i64 0, .int .i64 0, .string d.key, .string d.to_, .int .i64 0, .slice none 0 0, .int .u64 0, .int .i64 0, .int .i64 0, .slice none 0 0, .slice none 0 0, .slice none 0 0, .slice none 0 0] := hk67; clear hk67
 have hz72 := hg69.size
 refine dr_done (by kernel_rfl) ?_
 refine co_then ?_
 refine wp_ret ?_
 refine co_retTC (Q := fun _ _ _ => True) h65 rfl rfl rfl hk67' Try.underlying46 rfl (by kernel_rfl) ?_
 have hB73 := hb_at hB59 hg69 (by omega)
 exact ⟨rfl, hB73⟩
end Go.Proofs.Ytaoibbakflacoaa

/- Package asks: what a page makes of a scan. Conditions: a scan that is under way. -/
namespace Go.Proofs.Ytaoibbakflacoaa
open Go.RowKit Go.PlainAid
set_option linter.unusedVariables false
set_option linter.unusedSimpArgs false

set_option maxRecDepth 100000 in
set_option maxHeartbeats 1600000 in
theorem aRowsM_any (B : Nat) (d : RdD) (ov : Value) (pv : Value) (fg : Bool) (v2 : Value) (pl : List PrT) (w : World) (hB : Blk w B 77 #[.int .i64 d.c, .int .i64 d.rq, .int .i64 2, .int .i64 d.nd, .string d.k0, .string d.to_, .int .u64 d.at0, .int .i64 d.n, ov, .int .u64 d.tm, .string d.key, pv]) (hp : SliceOf prE 2 w pv d.prs) (hn : 0 ≤ d.n ∧ d.n ≤ 32) (hpn : d.prs.length < d.n.toNat) (hp2 : SliceOf prE 2 w v2 pl) (hpl : pl.length ≤ 60) (hok2 : ∀ z ∈ pl, (fun z : PrT => z.1.size ≤ 9223372036854775807) z) (hmo : moreF d fg pl = true) :
    Calls Try.prog 92 #[pt B 0, .agg #[.int .i64 10, .int .i64 0, .int .i64 d.rq, .int .i64 0, .bool fg, .int .u64 d.tm, .int .u64 0, .int .i64 0, .int .i64 0, .int .i64 0, .int .i64 0, .string d.key, .string (⟨#[]⟩), .int .i64 0, .slice none 0 0, .int .u64 0, .int .i64 0, .int .i64 0, .slice none 0 0, .slice none 0 0, .slice none 0 0, v2]] w fun e w' => ∃ (nb : Nat) (u : Value), e = .returned (.agg #[.bool true, .bool false, .int .i64 0, .int .i64 0, .int .u64 0, .int .i64 0, .slice none 0 0, .iface 75 (pt nb 0)]) ∧ w'.ownsRow w.heap.size 57 2 u (d.prs ++ pl.take (pgN d pl)).length ((d.prs ++ pl.take (pgN d pl)).flatMap prE) ∧ Blk w' nb 77 #[.int .i64 d.c, .int .i64 d.rq, .int .i64 2, .int .i64 d.nd, .string d.k0, .string d.to_, .int .u64 d.at0, .int .i64 d.n, ov, .int .u64 d.tm, .string (nxK (lastK d pl)), u] ∧ w.heap.size ≤ nb ∧ Below w.heap.size w w' := by
 have hpm : (d.prs.length : Int) < d.n := by omega
 obtain ⟨hpgl, hpgK⟩ := pg_len d pl hpn
 have hmmp := mnI_p (pl.length : Int) (mnI 2 (d.n - (d.prs.length : Int)))
 have hmmq := mnI_p 2 (d.n - (d.prs.length : Int))
 have hmo2 := more_y hmo
 have hmo3 : 0 < pgN d pl ∧ (d.prs ++ pl.take (pgN d pl)).length < d.n.toNat := ⟨by omega, hmo2.2.2.1⟩
 rw [List.length_append] at hmo3
 have hB0 := Below.refl w.heap.size w
 have hl_hB := hB.lt
 have hl_hp := sl_len hp
 have hl_hp2 := sl_len hp2
 refine co_enter (n := 92) Try.func92 rfl rfl rfl [(0, pt B 0), (1, .agg #[.int .i64 10, .int .i64 0, .int .i64 d.rq, .int .i64 0, .bool fg, .int .u64 d.tm, .int .u64 0, .int .i64 0, .int .i64 0, .int .i64 0, .int .i64 0, .string d.key, .string (⟨#[]⟩), .int .i64 0, .slice none 0 0, .int .u64 0, .int .i64 0, .int .i64 0, .slice none 0 0, .slice none 0 0, .slice none 0 0, v2])] rfl (fun a h0 => ?_)
 refine co_seq ?_
 refine co_reg ?_
 refine pw h0 rfl (op_new (v := fun N => pt N 0) (T := 46) (cs := #[.int .i64 10, .int .i64 0, .int .i64 d.rq, .int .i64 0, .bool fg, .int .u64 d.tm, .int .u64 0, .int .i64 0, .int .i64 0, .int .i64 0, .int .i64 0, .string d.key, .string (⟨#[]⟩), .int .i64 0, .slice none 0 0, .int .u64 0, .int .i64 0, .int .i64 0, .slice none 0 0, .slice none 0 0, .slice none 0 0, v2]) (by kernel_rfl) (by kernel_rfl) (by kernel_rfl)) ?_; clear h0
 rintro _ w2 a1 ⟨N3, rfl, hN6, hz7, hk5, hg4⟩ h1
 have hz8 := hg4.size
 try dsimp only at h1
 refine pw h1 rfl (op_new (v := fun N => pt N 0) (T := 83) (cs := #[.bool false, .bool false, .int .i64 0, .int .i64 0, .int .u64 0, .int .i64 0, .slice none 0 0, .nilIface]) (by kernel_rfl) (by kernel_rfl) (by kernel_rfl)) ?_; clear h1
 rintro _ w10 a9 ⟨N11, rfl, hN14, hz15, hk13, hg12⟩ h9
 have hz16 := hg12.size
 try dsimp only at h9
 refine pl_nil ?_
 refine co_then ?_
 refine co_seq ?_
 refine co_reg ?_
 refine pk0 (v := .int .i64 1) h9 rfl fun a17 h17 => ?_; clear h9
 refine pl_nil ?_
 refine co_then ?_
 refine co_seq ?_
 refine co_seq ?_
 refine co_reg ?_
 refine pk0 (v := pt B 0) h17 rfl fun a18 h18 => ?_; clear h17
 refine pk0 (v := pt B 0) h18 rfl fun a19 h19 => ?_; clear h18
 refine pk0 (v := pt B 0) h19 rfl fun a20 h20 => ?_; clear h19
 refine pk0 (v := pt B 2) h20 rfl fun a21 h21 => ?_; clear h20
 refine pk0 (v := pt B 2) h21 rfl fun a22 h22 => ?_; clear h21
 have hk23 := hB.kept hg4 (by simp)
 have hk24 := hk23.kept hg12 (by simp)
 refine pk (v := .int .i64 2) h22 rfl (rn_load1 rfl rfl Try.isAgg3 (hk24.cell rfl)) fun a25 h25 => ?_; clear h22
 refine pk0 (v := .bool ((2 : Int) == 2)) h25 rfl fun a26 h26 => ?_; clear h25
 refine pl_nil ?_
 refine co_then ?_
 have hc27 : ((2 : Int) == 2) = true := by first | (simp; done) | (simp; omega) | exact beq_false_of_ne (by omega) | exact beq_iff_eq.2 (by omega)
 rw [hc27] at h26; clear hc27
 refine co_true h26 rfl ?_
 refine co_reg ?_
 refine pk0 (v := pt B 0) h26 rfl fun a28 h28 => ?_; clear h26
 have hB31 := hb_new hB0 hg4
 have hB32 := hb_new hB31 hg12
 refine pw h28 rfl (op_call (args := #[pt B 0]) (R := fun res xw => res = .int .i64 (d.n - (d.prs.length : Int)) ∧ Below w10.heap.size w10 xw) rfl rfl rfl (by kernel_rfl) (by kernel_rfl) (Try.call88 _ _) (aLacks_any B d ov pv w10 hk24 (hp.below hB32) (by first | omega | decide | (dsimp only; omega)) (by first | omega | decide | (dsimp only; omega))) (by rintro e x ⟨rfl, hb33⟩; exact ⟨_, rfl, ⟨rfl, hb33⟩⟩)) ?_; clear h28
 rintro _ w30 a29 ⟨rfl, hb33⟩ h29
 have hz34 := hb33.size
 have hmm35 := mnI_p 2 (d.n - (d.prs.length : Int))
 refine pk0 (v := .int .i64 (mnI 2 (d.n - (d.prs.length : Int)))) h29 rfl fun a36 h36 => ?_; clear h29
 refine pk0 (v := .int .i64 (mnI 2 (d.n - (d.prs.length : Int)))) h36 rfl fun a37 h37 => ?_; clear h36
 refine pl_nil ?_
 refine co_then ?_
 refine co_seq ?_
 refine co_reg ?_
 refine pk0 (v := pt N3 21) h37 rfl fun a38 h38 => ?_; clear h37
 have hk39 := hk5.kept hg12 (by simp)
 have hk40 := hk39.below hb33
 refine pk (v := v2) h38 rfl (rn_load1 rfl rfl Try.isAgg33 (hk40.cell rfl)) fun a41 h41 => ?_; clear h38
 refine pk0 (v := pt N3 21) h41 rfl fun a42 h42 => ?_; clear h41
 refine pk (v := v2) h42 rfl (rn_load1 rfl rfl Try.isAgg33 (hk40.cell rfl)) fun a43 h43 => ?_; clear h42
 have hB44 := hb_call hB32 hb33
 refine pk (v := .int .i64 ((pl.length : Nat) : Int)) h43 rfl (rn_len rfl rfl Try.underlying33 (hp2.below hB44)) fun a45 h45 => ?_; clear h43
 refine pk0 (v := .int .i64 (mnI 2 (d.n - (d.prs.length : Int)))) h45 rfl fun a46 h46 => ?_; clear h45
 refine pk (v := .int .i64 ((pgN d pl : Nat) : Int)) h46 rfl (by rw [hpgK]; kernel_rfl) fun a47 h47 => ?_; clear h46
 refine pk (v := subV v2 0 (pgN d pl) 2) h47 rfl (rn_sliceTo rfl rfl rfl Try.underlying33 Try.sizeOf57 (hp2.below hB44) (by omega) (by omega)) fun a48 h48 => ?_; clear h47
 refine pk0 (v := subV v2 0 (pgN d pl) 2) h48 rfl fun a49 h49 => ?_; clear h48
 refine pl_nil ?_
 refine co_then ?_
 refine co_seq ?_
 refine co_reg ?_
 refine pk0 (v := pt B 0) h49 rfl fun a50 h50 => ?_; clear h49
 refine pk0 (v := pt B 0) h50 rfl fun a51 h51 => ?_; clear h50
 refine pk0 (v := pt B 11) h51 rfl fun a52 h52 => ?_; clear h51
 have hk53 := hk24.below hb33
 refine pk (v := pv) h52 rfl (rn_load1 rfl rfl Try.isAgg33 (hk53.cell rfl)) fun a54 h54 => ?_; clear h52
 refine pk0 (v := subV v2 0 (pgN d pl) 2) h54 rfl fun a55 h55 => ?_; clear h54
 refine pw h55 rfl (op_new (v := fun N => .slice (some ⟨N, 0, none⟩) 2 2) (T := 33) (cs := #[pv, subV v2 0 (pgN d pl) 2]) (by kernel_rfl) (by kernel_rfl) (by obtain ⟨_, _, eB0, _⟩ := (hp.below hB44); subst eB0; obtain ⟨_, _, eB1, _⟩ := (sl_take (hp2.below hB44) (pgN d pl) (by omega)); rw [ eB1]; kernel_rfl)) ?_; clear h55
 rintro _ w57 a56 ⟨N58, rfl, hN61, hz62, hk60, hg59⟩ h56
 have hz63 := hg59.size
 try dsimp only at h56
 have hB66 := hb_new hB44 hg59
 refine pw h56 rfl (op_call (args := #[.slice (some ⟨N58, 0, none⟩) 2 2]) (R := fun res xw => ∃ r : Value, res = r ∧ xw.ownsRow w57.heap.size 57 2 r (d.prs ++ (pl.take (pgN d pl))).length ((d.prs ++ (pl.take (pgN d pl))).flatMap prE) ∧ Below w57.heap.size w57 xw) rfl rfl rfl (by kernel_rfl) (by kernel_rfl) (Try.call93 _ _) (concatPr N58 pv d.prs (subV v2 0 (pgN d pl) 2) (pl.take (pgN d pl)) w57 hk60 (hp.below hB66) (sl_take (hp2.below hB66) (pgN d pl) (by omega)) (by first | omega | (simp; done) | (simp; omega))) (by rintro e x ⟨r, rfl, hq68, hb69⟩; exact ⟨_, rfl, ⟨r, rfl, hq68, hb69⟩⟩)) ?_; clear h56
 rintro r67 w65 a64 ⟨_, rfl, hq68, hb69⟩ h64
 have hz70 := hb69.size
 have hl71 := sl_len (row_sl hq68 prE_len)
 refine pk0 (v := r67) h64 rfl fun a72 h72 => ?_; clear h64
 refine pl_nil ?_
 refine co_then ?_
 refine co_seq ?_
 refine co_seq ?_
 refine co_reg ?_
 refine pk0 (v := pt B 0) h72 rfl fun a73 h73 => ?_; clear h72
 refine pk0 (v := pt B 0) h73 rfl fun a74 h74 => ?_; clear h73
 refine pk0 (v := pt B 0) h74 rfl fun a75 h75 => ?_; clear h74
 refine pk0 (v := pt B 2) h75 rfl fun a76 h76 => ?_; clear h75
 refine pk0 (v := pt B 2) h76 rfl fun a77 h77 => ?_; clear h76
 have hk78 := hk53.kept hg59 (by simp)
 have hk79 := hk78.below hb69
 refine pk (v := .int .i64 2) h77 rfl (rn_load1 rfl rfl Try.isAgg3 (hk79.cell rfl)) fun a80 h80 => ?_; clear h77
 refine pk0 (v := .bool ((2 : Int) == 2)) h80 rfl fun a81 h81 => ?_; clear h80
 refine pk0 (v := .bool ((2 : Int) == 2)) h81 rfl fun a82 h82 => ?_; clear h81
 have hc83 : ((2 : Int) == 2) = true := by first | (simp; done) | (simp; omega) | exact beq_false_of_ne (by omega) | exact beq_iff_eq.2 (by omega)
 rw [hc83] at h82; clear hc83
 refine pk0 (v := pt N3 4) h82 rfl fun a84 h84 => ?_; clear h82
 have hk85 := hk40.kept hg59 (by simp)
 have hk86 := hk85.below hb69
 refine pk (v := .bool fg) h84 rfl (rn_load1 rfl rfl Try.isAgg4 (hk86.cell rfl)) fun a87 h87 => ?_; clear h84
 refine pk0 (v := .bool fg) h87 rfl fun a88 h88 => ?_; clear h87
 refine pk0 (v := .bool fg) h88 rfl fun a89 h89 => ?_; clear h88
 have hc90 : (fg) = true := by rw [hmo2.1]
 rw [hc90] at h89; clear hc90
 refine pk0 (v := subV v2 0 (pgN d pl) 2) h89 rfl fun a91 h91 => ?_; clear h89
 have hB92 := hb_call hB66 hb69
 refine pk (v := .int .i64 (((pl.take (pgN d pl)).length : Nat) : Int)) h91 rfl (rn_len rfl rfl Try.underlying33 (sl_take (hp2.below hB92) (pgN d pl) (by omega))) fun a93 h93 => ?_; clear h91
 refine pk0 (v := .bool (decide ((((pl.take (pgN d pl)).length : Nat) : Int) > 0))) h93 rfl fun a94 h94 => ?_; clear h93
 refine pk0 (v := .bool (decide ((((pl.take (pgN d pl)).length : Nat) : Int) > 0))) h94 rfl fun a95 h95 => ?_; clear h94
 refine pk0 (v := .bool (decide ((((pl.take (pgN d pl)).length : Nat) : Int) > 0))) h95 rfl fun a96 h96 => ?_; clear h95
 have hc97 : (decide ((((pl.take (pgN d pl)).length : Nat) : Int) > 0)) = true := decide_eq_true (by omega)
 rw [hc97] at h96; clear hc97
 refine pk0 (v := r67) h96 rfl fun a98 h98 => ?_; clear h96
 refine pk (v := .int .i64 (((d.prs ++ (pl.take (pgN d pl))).length : Nat) : Int)) h98 rfl (rn_lenOwn rfl rfl Try.underlying33 hq68) fun a99 h99 => ?_; clear h98
 refine pk0 (v := pt B 0) h99 rfl fun a100 h100 => ?_; clear h99
 refine pk0 (v := pt B 0) h100 rfl fun a101 h101 => ?_; clear h100
 refine pk0 (v := pt B 0) h101 rfl fun a102 h102 => ?_; clear h101
 refine pk0 (v := pt B 2) h102 rfl fun a103 h103 => ?_; clear h102
 refine pk0 (v := pt B 7) h103 rfl fun a104 h104 => ?_; clear h103
 refine pk (v := .int .i64 d.n) h104 rfl (rn_load1 rfl rfl Try.isAgg3 (hk79.cell rfl)) fun a105 h105 => ?_; clear h104
 refine pk0 (v := .bool (decide ((((d.prs ++ (pl.take (pgN d pl))).length : Nat) : Int) < d.n))) h105 rfl fun a106 h106 => ?_; clear h105
 refine pk0 (v := .bool (decide ((((d.prs ++ (pl.take (pgN d pl))).length : Nat) : Int) < d.n))) h106 rfl fun a107 h107 => ?_; clear h106
 refine pl_nil ?_
 refine co_then ?_
 have hk109 := hk13.below hb33
 have hk110 := hk109.kept hg59 (by simp)
 have hk111 := hk110.below hb69
 cases hc108 : (decide ((((d.prs ++ (pl.take (pgN d pl))).length : Nat) : Int) < d.n))
 ·
  rw [hc108] at h107
  have hp112 : ¬ ((((d.prs ++ (pl.take (pgN d pl))).length : Nat) : Int) < d.n) := of_decide_eq_false hc108
  clear hc108
  refine co_false h107 rfl ?_
  refine wp_skip ?_
  refine co_then ?_
  refine co_seq ?_
  refine co_reg ?_
  refine pk0 (v := pt B 0) h107 rfl fun a113 h113 => ?_; clear h107
  refine pk0 (v := pt B 0) h113 rfl fun a114 h114 => ?_; clear h113
  refine pk0 (v := pt B 9) h114 rfl fun a115 h115 => ?_; clear h114
  refine pk (v := .int .u64 d.tm) h115 rfl (rn_load1 rfl rfl Try.isAgg22 (hk79.cell rfl)) fun a116 h116 => ?_; clear h115
  refine pk0 (v := r67) h116 rfl fun a117 h117 => ?_; clear h116
  refine pk (v := .agg #[.int .i64 0, .int .i64 0, .int .u64 d.tm, .int .i64 0, r67]) h117 rfl (by obtain ⟨_, _, _, hq⟩ := row_form hq68; subst hq; kernel_rfl) fun a118 h118 => ?_; clear h117
  refine pk0 (v := .agg #[.bool false, .bool true, .int .i64 0, .int .i64 0, .int .u64 d.tm, .int .i64 0, r67, .nilIface]) h118 rfl fun a119 h119 => ?_; clear h118
  refine pwD h119 rfl (op_storeN rfl rfl rfl (all_cons rfl (all_cons rfl (all_cons rfl (all_cons rfl (all_cons rfl (all_cons rfl (all_cons (row_one hq68) (all_cons rfl all_nil)))))))) (by kernel_rfl) hk111 rfl) ?_; clear h119
  rintro _ w121 a120 ⟨hk122, hz123, hg124⟩ h120
  have hk122' : Blk w121 N11 83 #[.bool false, .bool true, .int .i64 0, .int .i64 0, .int .u64 d.tm, .int .i64 0, r67, .nilIface] := hk122; clear hk122
  have hz125 := hg124.size
  refine pl_nil ?_
  refine co_then ?_
  refine wp_ret ?_
  refine co_retC (Q := fun _ _ _ => True) h120 rfl rfl hk122' Try.underlying83 rfl (by kernel_rfl) ?_
  exfalso; first | omega | (rw [hmo2.1] at *; simp at *; done)
 ·
  rw [hc108] at h107
  have hp126 : (((d.prs ++ (pl.take (pgN d pl))).length : Nat) : Int) < d.n := of_decide_eq_true hc108
  clear hc108
  refine co_true h107 rfl ?_
  refine co_seq ?_
  refine co_reg ?_
  refine pk0 (v := subV v2 0 (pgN d pl) 2) h107 rfl fun a127 h127 => ?_; clear h107
  refine pk0 (v := subV v2 0 (pgN d pl) 2) h127 rfl fun a128 h128 => ?_; clear h127
  refine pk (v := .int .i64 (((pl.take (pgN d pl)).length : Nat) : Int)) h128 rfl (rn_len rfl rfl Try.underlying33 (sl_take (hp2.below hB92) (pgN d pl) (by omega))) fun a129 h129 => ?_; clear h128
  refine pk (v := .int .i64 ((((pl.take (pgN d pl)).length : Nat) : Int) - 1)) h129 rfl (rn_arith rfl rfl rfl rfl rfl rfl (IntWalk.i64_in _ (by omega))) fun a130 h130 => ?_; clear h129
  obtain ⟨y131, hy131⟩ : ∃ z, (pl.take (pgN d pl))[((((pl.take (pgN d pl)).length : Nat) : Int) - 1).toNat]? = some z := ⟨_, List.getElem?_eq_getElem (by first | omega | (simp; done) | (simp; omega))⟩
  have oky131 := (fun z hz => hok2 z (List.mem_of_mem_take hz)) _ (List.mem_of_getElem? hy131)
  have k132 : y131.1.size ≤ 9223372036854775807 := oky131
  refine pk (v := pt (blkOf (subV v2 0 (pgN d pl) 2)) (offOf (subV v2 0 (pgN d pl) 2) + (((((pl.take (pgN d pl)).length : Nat) : Int) - 1).toNat) * 2)) h130 rfl (rn_index rfl rfl rfl Try.underlying33 Try.sizeOf57 (sl_take (hp2.below hB92) (pgN d pl) (by omega)) (by omega) (by first | omega | (simp; done) | (simp; omega))) fun a133 h133 => ?_; clear h130
  refine pk0 (v := pt (blkOf (subV v2 0 (pgN d pl) 2)) (offOf (subV v2 0 (pgN d pl) 2) + (((((pl.take (pgN d pl)).length : Nat) : Int) - 1).toNat) * 2)) h133 rfl fun a134 h134 => ?_; clear h133
  refine pk (v := .string y131.1) h134 rfl (rn_load1 rfl rfl Try.isAgg9 ((sl_at (sl_take (hp2.below hB92) (pgN d pl) (by omega)) hy131) 0 _ rfl)) fun a135 h135 => ?_; clear h134
  refine pw h135 rfl (op_call (args := #[.string y131.1]) (R := fun res xw => res = .string (nxK y131.1) ∧ Below w65.heap.size w65 xw) rfl rfl rfl (by kernel_rfl) (by kernel_rfl) (Try.call94 _ _) (next_any y131.1 w65 (by omega)) (by rintro e x ⟨rfl, h⟩; exact ⟨_, rfl, rfl, h⟩)) ?_; clear h135
  rintro _ w137 a136 ⟨rfl, hb138⟩ h136
  have hz139 := hb138.size
  refine pk0 (v := .string (nxK y131.1)) h136 rfl fun a140 h140 => ?_; clear h136
  refine pl_nil ?_
  refine co_then ?_
  refine co_seq ?_
  refine co_reg ?_
  refine pk0 (v := .string (nxK y131.1)) h140 rfl fun a141 h141 => ?_; clear h140
  refine pk0 (v := .bool (!((nxK y131.1 : ByteArray).toList == (⟨#[]⟩ : ByteArray).toList))) h141 rfl fun a142 h142 => ?_; clear h141
  refine pl_nil ?_
  refine co_then ?_
  have hc143 : (!((nxK y131.1 : ByteArray).toList == (⟨#[]⟩ : ByteArray).toList)) = true := by rw [← last_of (d := d) hy131 (by omega), hmo2.2.2.2]; rfl
  rw [hc143] at h142; clear hc143
  refine co_true h142 rfl ?_
  refine co_seq ?_
  refine dr_gen (fun x => Below w.heap.size w x ∧ Blk x B 77 #[.int .i64 d.c, .int .i64 d.rq, .int .i64 2, .int .i64 d.nd, .string d.k0, .string d.to_, .int .u64 d.at0, .int .i64 d.n, ov, .int .u64 d.tm, .string d.key, pv]) (by kernel_rfl) (fun w144 hg145 => ?_) (fun w144 hg145 => ?_)
  ·
   have hz146 := hg145.size
   have hB147 := hb_call hB92 hb138
   have hB148 := hb_new hB147 hg145
   have hk149 := hk79.below hb138
   have hk150 := hk149.kept hg145 (by simp)
   exact ⟨hB148, hk150⟩
  have hz151 := hg145.size
  have hB152 := hb_call hB92 hb138
  have hB153 := hb_new hB152 hg145
  have hk154 := hk79.below hb138
  have hk155 := hk154.kept hg145 (by simp)
  refine dk0 0 (v := pt B 0) h142 rfl rfl ⟨hB153, hk155⟩ fun a156 h156 => ?_; clear h142
  refine dk0 1 (v := pt B 0) h156 rfl rfl ⟨hB153, hk155⟩ fun a157 h157 => ?_; clear h156
  refine dk0 2 (v := pt B 0) h157 rfl rfl ⟨hB153, hk155⟩ fun a158 h158 => ?_; clear h157
  refine dk 3 (v := .agg #[.int .i64 d.c, .int .i64 d.rq, .int .i64 2, .int .i64 d.nd, .string d.k0, .string d.to_, .int .u64 d.at0, .int .i64 d.n, ov]) h158 rfl rfl ⟨hB153, hk155⟩ (fun x hx => (rn_loadN rfl rfl Try.underlying71 rfl (by kernel_rfl) (blk_part hx.2 0 (by rfl)))) fun a159 h159 => ?_; clear h158
  refine dk0 4 (v := pt B 0) h159 rfl rfl ⟨hB153, hk155⟩ fun a160 h160 => ?_; clear h159
  refine dk0 5 (v := pt B 0) h160 rfl rfl ⟨hB153, hk155⟩ fun a161 h161 => ?_; clear h160
  refine dk0 6 (v := pt B 9) h161 rfl rfl ⟨hB153, hk155⟩ fun a162 h162 => ?_; clear h161
  refine dk 7 (v := .int .u64 d.tm) h162 rfl rfl ⟨hB153, hk155⟩ (fun x hx => (rn_load1 rfl rfl Try.isAgg22 (hx.2.cell rfl))) fun a163 h163 => ?_; clear h162
  refine dk0 8 (v := .string (nxK y131.1)) h163 rfl rfl ⟨hB153, hk155⟩ fun a164 h164 => ?_; clear h163
  refine dk0 9 (v := r67) h164 rfl rfl ⟨hB153, hk155⟩ fun a165 h165 => ?_; clear h164
  have hr166 := row_kept_new hq68 (below_grown hb138)
  have hr167 := row_kept_new hr166 hg145
  refine dk 10 (v := .agg #[.int .i64 d.c, .int .i64 d.rq, .int .i64 2, .int .i64 d.nd, .string d.k0, .string d.to_, .int .u64 d.at0, .int .i64 d.n, ov, .int .u64 d.tm, .string (nxK y131.1), r67]) h165 rfl rfl ⟨hB153, hk155⟩ (fun x hx => (by obtain ⟨_, _, _, hq⟩ := row_form hr167; subst hq; kernel_rfl)) fun a168 h168 => ?_; clear h165
  refine d1 11 h168 rfl rfl (op_new (v := fun N => pt N 0) (T := 77) (cs := #[.int .i64 d.c, .int .i64 d.rq, .int .i64 2, .int .i64 d.nd, .string d.k0, .string d.to_, .int .u64 d.at0, .int .i64 d.n, ov, .int .u64 d.tm, .string (nxK y131.1), r67]) (by kernel_rfl) (by kernel_rfl) (by kernel_rfl)) ?_ ?_; clear h168
  ·
   rintro _ w170 ⟨N171, rfl, hN174, hz175, hk173, hg172⟩
   have ha176 := row_fresh hr167 hN174
   have hz177 := hg172.size
   have hB178 := hb_new hB153 hg172
   have hk179 := hk155.kept hg172 (by simp)
   exact ⟨hB178, hk179⟩
  rintro _ w170 a169 ⟨N171, rfl, hN174, hz175, hk173, hg172⟩ h169
  have ha176 := row_fresh hr167 hN174
  have hz177 := hg172.size
  try dsimp only at h169
  have hB178 := hb_new hB153 hg172
  have hk179 := hk155.kept hg172 (by simp)
  refine dk0 12 (v := .iface 75 (pt N171 0)) h169 rfl rfl ⟨hB178, hk179⟩ fun a180 h180 => ?_; clear h169
  refine dk0 13 (v := .agg #[.bool true, .bool false, .int .i64 0, .int .i64 0, .int .u64 0, .int .i64 0, .slice none 0 0, .iface 75 (pt N171 0)]) h180 rfl rfl ⟨hB178, hk179⟩ fun a181 h181 => ?_; clear h180
  have hk187 := hk111.below hb138
  have hk188 := hk187.kept hg145 (by simp)
  have hk189 := hk188.kept hg172 (by simp)
  refine d1D 14 h181 rfl rfl (op_storeN rfl rfl rfl (all_cons rfl (all_cons rfl (all_cons rfl (all_cons rfl (all_cons rfl (all_cons rfl (all_cons rfl (all_cons rfl all_nil)))))))) (by kernel_rfl) hk189 rfl) ?_ ?_; clear h181
  ·
   rintro _ w183 ⟨hk184, hz185, hg186⟩
   have hk184' : Blk w183 N11 83 #[.bool true, .bool false, .int .i64 0, .int .i64 0, .int .u64 0, .int .i64 0, .slice none 0 0, .iface 75 (pt N171 0)] := hk184; clear hk184
   have hz190 := hg186.size
   have hB191 := hb_at hB178 hg186 (by omega)
   have hk192 := hk179.kept hg186 (by simp; omega)
   exact ⟨hB191, hk192⟩
  rintro _ w183 a182 ⟨hk184, hz185, hg186⟩ h182
  have hk184' : Blk w183 N11 83 #[.bool true, .bool false, .int .i64 0, .int .i64 0, .int .u64 0, .int .i64 0, .slice none 0 0, .iface 75 (pt N171 0)] := hk184; clear hk184
  have hz190 := hg186.size
  refine dr_done (by kernel_rfl) ?_
  refine co_then ?_
  refine wp_ret ?_
  refine co_thenR ?_
  refine co_retC (Q := fun _ _ _ => True) h182 rfl rfl hk184' Try.underlying83 rfl (by kernel_rfl) ?_
  have hr191 := row_kept_new hr167 hg172
  have hr192 := row_kept_at hr191 hg186 (own_neT hr191 hk189 (by decide))
  have hk193 := hk173.kept hg186 (by simp; omega)
  have hB194 := hb_at hB178 hg186 (by omega)
  have hlk : nxK (lastK d pl) = nxK y131.1 := by rw [last_of (d := d) hy131 (by omega)]
  exact ⟨N171, r67, rfl, (row_lows hr192 (by omega)), by rw [hlk]; exact hk193, by omega, hB194⟩
set_option maxRecDepth 100000 in
set_option maxHeartbeats 1600000 in
theorem aRowsD_any (B : Nat) (d : RdD) (ov : Value) (pv : Value) (fg : Bool) (v2 : Value) (pl : List PrT) (w : World) (hB : Blk w B 77 #[.int .i64 d.c, .int .i64 d.rq, .int .i64 2, .int .i64 d.nd, .string d.k0, .string d.to_, .int .u64 d.at0, .int .i64 d.n, ov, .int .u64 d.tm, .string d.key, pv]) (hp : SliceOf prE 2 w pv d.prs) (hn : 0 ≤ d.n ∧ d.n ≤ 32) (hpn : d.prs.length < d.n.toNat) (hp2 : SliceOf prE 2 w v2 pl) (hpl : pl.length ≤ 60) (hok2 : ∀ z ∈ pl, (fun z : PrT => z.1.size ≤ 9223372036854775807) z) (hmo : moreF d fg pl = false) :
    Calls Try.prog 92 #[pt B 0, .agg #[.int .i64 10, .int .i64 0, .int .i64 d.rq, .int .i64 0, .bool fg, .int .u64 d.tm, .int .u64 0, .int .i64 0, .int .i64 0, .int .i64 0, .int .i64 0, .string d.key, .string (⟨#[]⟩), .int .i64 0, .slice none 0 0, .int .u64 0, .int .i64 0, .int .i64 0, .slice none 0 0, .slice none 0 0, .slice none 0 0, v2]] w fun e w' => ∃ (u : Value), e = .returned (.agg #[.bool false, .bool true, .int .i64 0, .int .i64 0, .int .u64 d.tm, .int .i64 0, u, .nilIface]) ∧ w'.ownsRow w.heap.size 57 2 u (d.prs ++ pl.take (pgN d pl)).length ((d.prs ++ pl.take (pgN d pl)).flatMap prE) ∧ Below w.heap.size w w' := by
 have hpm : (d.prs.length : Int) < d.n := by omega
 obtain ⟨hpgl, hpgK⟩ := pg_len d pl hpn
 have hmmp := mnI_p (pl.length : Int) (mnI 2 (d.n - (d.prs.length : Int)))
 have hmmq := mnI_p 2 (d.n - (d.prs.length : Int))
 have hB0 := Below.refl w.heap.size w
 have hl_hB := hB.lt
 have hl_hp := sl_len hp
 have hl_hp2 := sl_len hp2
 refine co_enter (n := 92) Try.func92 rfl rfl rfl [(0, pt B 0), (1, .agg #[.int .i64 10, .int .i64 0, .int .i64 d.rq, .int .i64 0, .bool fg, .int .u64 d.tm, .int .u64 0, .int .i64 0, .int .i64 0, .int .i64 0, .int .i64 0, .string d.key, .string (⟨#[]⟩), .int .i64 0, .slice none 0 0, .int .u64 0, .int .i64 0, .int .i64 0, .slice none 0 0, .slice none 0 0, .slice none 0 0, v2])] rfl (fun a h0 => ?_)
 refine co_seq ?_
 refine co_reg ?_
 refine pw h0 rfl (op_new (v := fun N => pt N 0) (T := 46) (cs := #[.int .i64 10, .int .i64 0, .int .i64 d.rq, .int .i64 0, .bool fg, .int .u64 d.tm, .int .u64 0, .int .i64 0, .int .i64 0, .int .i64 0, .int .i64 0, .string d.key, .string (⟨#[]⟩), .int .i64 0, .slice none 0 0, .int .u64 0, .int .i64 0, .int .i64 0, .slice none 0 0, .slice none 0 0, .slice none 0 0, v2]) (by kernel_rfl) (by kernel_rfl) (by kernel_rfl)) ?_; clear h0
 rintro _ w2 a1 ⟨N3, rfl, hN6, hz7, hk5, hg4⟩ h1
 have hz8 := hg4.size
 try dsimp only at h1
 refine pw h1 rfl (op_new (v := fun N => pt N 0) (T := 83) (cs := #[.bool false, .bool false, .int .i64 0, .int .i64 0, .int .u64 0, .int .i64 0, .slice none 0 0, .nilIface]) (by kernel_rfl) (by kernel_rfl) (by kernel_rfl)) ?_; clear h1
 rintro _ w10 a9 ⟨N11, rfl, hN14, hz15, hk13, hg12⟩ h9
 have hz16 := hg12.size
 try dsimp only at h9
 refine pl_nil ?_
 refine co_then ?_
 refine co_seq ?_
 refine co_reg ?_
 refine pk0 (v := .int .i64 1) h9 rfl fun a17 h17 => ?_; clear h9
 refine pl_nil ?_
 refine co_then ?_
 refine co_seq ?_
 refine co_seq ?_
 refine co_reg ?_
 refine pk0 (v := pt B 0) h17 rfl fun a18 h18 => ?_; clear h17
 refine pk0 (v := pt B 0) h18 rfl fun a19 h19 => ?_; clear h18
 refine pk0 (v := pt B 0) h19 rfl fun a20 h20 => ?_; clear h19
 refine pk0 (v := pt B 2) h20 rfl fun a21 h21 => ?_; clear h20
 refine pk0 (v := pt B 2) h21 rfl fun a22 h22 => ?_; clear h21
 have hk23 := hB.kept hg4 (by simp)
 have hk24 := hk23.kept hg12 (by simp)
 refine pk (v := .int .i64 2) h22 rfl (rn_load1 rfl rfl Try.isAgg3 (hk24.cell rfl)) fun a25 h25 => ?_; clear h22
 refine pk0 (v := .bool ((2 : Int) == 2)) h25 rfl fun a26 h26 => ?_; clear h25
 refine pl_nil ?_
 refine co_then ?_
 have hc27 : ((2 : Int) == 2) = true := by first | (simp; done) | (simp; omega) | exact beq_false_of_ne (by omega) | exact beq_iff_eq.2 (by omega)
 rw [hc27] at h26; clear hc27
 refine co_true h26 rfl ?_
 refine co_reg ?_
 refine pk0 (v := pt B 0) h26 rfl fun a28 h28 => ?_; clear h26
 have hB31 := hb_new hB0 hg4
 have hB32 := hb_new hB31 hg12
 refine pw h28 rfl (op_call (args := #[pt B 0]) (R := fun res xw => res = .int .i64 (d.n - (d.prs.length : Int)) ∧ Below w10.heap.size w10 xw) rfl rfl rfl (by kernel_rfl) (by kernel_rfl) (Try.call88 _ _) (aLacks_any B d ov pv w10 hk24 (hp.below hB32) (by first | omega | decide | (dsimp only; omega)) (by first | omega | decide | (dsimp only; omega))) (by rintro e x ⟨rfl, hb33⟩; exact ⟨_, rfl, ⟨rfl, hb33⟩⟩)) ?_; clear h28
 rintro _ w30 a29 ⟨rfl, hb33⟩ h29
 have hz34 := hb33.size
 have hmm35 := mnI_p 2 (d.n - (d.prs.length : Int))
 refine pk0 (v := .int .i64 (mnI 2 (d.n - (d.prs.length : Int)))) h29 rfl fun a36 h36 => ?_; clear h29
 refine pk0 (v := .int .i64 (mnI 2 (d.n - (d.prs.length : Int)))) h36 rfl fun a37 h37 => ?_; clear h36
 refine pl_nil ?_
 refine co_then ?_
 refine co_seq ?_
 refine co_reg ?_
 refine pk0 (v := pt N3 21) h37 rfl fun a38 h38 => ?_; clear h37
 have hk39 := hk5.kept hg12 (by simp)
 have hk40 := hk39.below hb33
 refine pk (v := v2) h38 rfl (rn_load1 rfl rfl Try.isAgg33 (hk40.cell rfl)) fun a41 h41 => ?_; clear h38
 refine pk0 (v := pt N3 21) h41 rfl fun a42 h42 => ?_; clear h41
 refine pk (v := v2) h42 rfl (rn_load1 rfl rfl Try.isAgg33 (hk40.cell rfl)) fun a43 h43 => ?_; clear h42
 have hB44 := hb_call hB32 hb33
 refine pk (v := .int .i64 ((pl.length : Nat) : Int)) h43 rfl (rn_len rfl rfl Try.underlying33 (hp2.below hB44)) fun a45 h45 => ?_; clear h43
 refine pk0 (v := .int .i64 (mnI 2 (d.n - (d.prs.length : Int)))) h45 rfl fun a46 h46 => ?_; clear h45
 refine pk (v := .int .i64 ((pgN d pl : Nat) : Int)) h46 rfl (by rw [hpgK]; kernel_rfl) fun a47 h47 => ?_; clear h46
 refine pk (v := subV v2 0 (pgN d pl) 2) h47 rfl (rn_sliceTo rfl rfl rfl Try.underlying33 Try.sizeOf57 (hp2.below hB44) (by omega) (by omega)) fun a48 h48 => ?_; clear h47
 refine pk0 (v := subV v2 0 (pgN d pl) 2) h48 rfl fun a49 h49 => ?_; clear h48
 refine pl_nil ?_
 refine co_then ?_
 refine co_seq ?_
 refine co_reg ?_
 refine pk0 (v := pt B 0) h49 rfl fun a50 h50 => ?_; clear h49
 refine pk0 (v := pt B 0) h50 rfl fun a51 h51 => ?_; clear h50
 refine pk0 (v := pt B 11) h51 rfl fun a52 h52 => ?_; clear h51
 have hk53 := hk24.below hb33
 refine pk (v := pv) h52 rfl (rn_load1 rfl rfl Try.isAgg33 (hk53.cell rfl)) fun a54 h54 => ?_; clear h52
 refine pk0 (v := subV v2 0 (pgN d pl) 2) h54 rfl fun a55 h55 => ?_; clear h54
 refine pw h55 rfl (op_new (v := fun N => .slice (some ⟨N, 0, none⟩) 2 2) (T := 33) (cs := #[pv, subV v2 0 (pgN d pl) 2]) (by kernel_rfl) (by kernel_rfl) (by obtain ⟨_, _, eB0, _⟩ := (hp.below hB44); subst eB0; obtain ⟨_, _, eB1, _⟩ := (sl_take (hp2.below hB44) (pgN d pl) (by omega)); rw [ eB1]; kernel_rfl)) ?_; clear h55
 rintro _ w57 a56 ⟨N58, rfl, hN61, hz62, hk60, hg59⟩ h56
 have hz63 := hg59.size
 try dsimp only at h56
 have hB66 := hb_new hB44 hg59
 refine pw h56 rfl (op_call (args := #[.slice (some ⟨N58, 0, none⟩) 2 2]) (R := fun res xw => ∃ r : Value, res = r ∧ xw.ownsRow w57.heap.size 57 2 r (d.prs ++ (pl.take (pgN d pl))).length ((d.prs ++ (pl.take (pgN d pl))).flatMap prE) ∧ Below w57.heap.size w57 xw) rfl rfl rfl (by kernel_rfl) (by kernel_rfl) (Try.call93 _ _) (concatPr N58 pv d.prs (subV v2 0 (pgN d pl) 2) (pl.take (pgN d pl)) w57 hk60 (hp.below hB66) (sl_take (hp2.below hB66) (pgN d pl) (by omega)) (by first | omega | (simp; done) | (simp; omega))) (by rintro e x ⟨r, rfl, hq68, hb69⟩; exact ⟨_, rfl, ⟨r, rfl, hq68, hb69⟩⟩)) ?_; clear h56
 rintro r67 w65 a64 ⟨_, rfl, hq68, hb69⟩ h64
 have hz70 := hb69.size
 have hl71 := sl_len (row_sl hq68 prE_len)
 refine pk0 (v := r67) h64 rfl fun a72 h72 => ?_; clear h64
 refine pl_nil ?_
 refine co_then ?_
 refine co_seq ?_
 refine co_seq ?_
 refine co_reg ?_
 refine pk0 (v := pt B 0) h72 rfl fun a73 h73 => ?_; clear h72
 refine pk0 (v := pt B 0) h73 rfl fun a74 h74 => ?_; clear h73
 refine pk0 (v := pt B 0) h74 rfl fun a75 h75 => ?_; clear h74
 refine pk0 (v := pt B 2) h75 rfl fun a76 h76 => ?_; clear h75
 refine pk0 (v := pt B 2) h76 rfl fun a77 h77 => ?_; clear h76
 have hk78 := hk53.kept hg59 (by simp)
 have hk79 := hk78.below hb69
 refine pk (v := .int .i64 2) h77 rfl (rn_load1 rfl rfl Try.isAgg3 (hk79.cell rfl)) fun a80 h80 => ?_; clear h77
 refine pk0 (v := .bool ((2 : Int) == 2)) h80 rfl fun a81 h81 => ?_; clear h80
 refine pk0 (v := .bool ((2 : Int) == 2)) h81 rfl fun a82 h82 => ?_; clear h81
 have hc83 : ((2 : Int) == 2) = true := by first | (simp; done) | (simp; omega) | exact beq_false_of_ne (by omega) | exact beq_iff_eq.2 (by omega)
 rw [hc83] at h82; clear hc83
 refine pk0 (v := pt N3 4) h82 rfl fun a84 h84 => ?_; clear h82
 have hk85 := hk40.kept hg59 (by simp)
 have hk86 := hk85.below hb69
 refine pk (v := .bool fg) h84 rfl (rn_load1 rfl rfl Try.isAgg4 (hk86.cell rfl)) fun a87 h87 => ?_; clear h84
 refine pk0 (v := .bool fg) h87 rfl fun a88 h88 => ?_; clear h87
 refine pk0 (v := .bool fg) h88 rfl fun a89 h89 => ?_; clear h88
 have hB91 := hb_call hB66 hb69
 have hk92 := hk13.below hb33
 have hk93 := hk92.kept hg59 (by simp)
 have hk94 := hk93.below hb69
 cases hc90 : (fg)
 ·
  rw [hc90] at h89
  refine psk h89 rfl fun a95 h95 => ?_; clear h89
  refine psk h95 rfl fun a96 h96 => ?_; clear h95
  refine psk h96 rfl fun a97 h97 => ?_; clear h96
  refine pk0 (v := .bool false) h97 rfl fun a98 h98 => ?_; clear h97
  refine pk0 (v := .bool false) h98 rfl fun a99 h99 => ?_; clear h98
  refine psk h99 rfl fun a100 h100 => ?_; clear h99
  refine psk h100 rfl fun a101 h101 => ?_; clear h100
  refine psk h101 rfl fun a102 h102 => ?_; clear h101
  refine psk h102 rfl fun a103 h103 => ?_; clear h102
  refine psk h103 rfl fun a104 h104 => ?_; clear h103
  refine psk h104 rfl fun a105 h105 => ?_; clear h104
  refine psk h105 rfl fun a106 h106 => ?_; clear h105
  refine psk h106 rfl fun a107 h107 => ?_; clear h106
  refine psk h107 rfl fun a108 h108 => ?_; clear h107
  refine pk0 (v := .bool false) h108 rfl fun a109 h109 => ?_; clear h108
  refine pl_nil ?_
  refine co_then ?_
  refine co_false h109 rfl ?_
  refine wp_skip ?_
  refine co_then ?_
  refine co_seq ?_
  refine co_reg ?_
  refine pk0 (v := pt B 0) h109 rfl fun a110 h110 => ?_; clear h109
  refine pk0 (v := pt B 0) h110 rfl fun a111 h111 => ?_; clear h110
  refine pk0 (v := pt B 9) h111 rfl fun a112 h112 => ?_; clear h111
  refine pk (v := .int .u64 d.tm) h112 rfl (rn_load1 rfl rfl Try.isAgg22 (hk79.cell rfl)) fun a113 h113 => ?_; clear h112
  refine pk0 (v := r67) h113 rfl fun a114 h114 => ?_; clear h113
  refine pk (v := .agg #[.int .i64 0, .int .i64 0, .int .u64 d.tm, .int .i64 0, r67]) h114 rfl (by obtain ⟨_, _, _, hq⟩ := row_form hq68; subst hq; kernel_rfl) fun a115 h115 => ?_; clear h114
  refine pk0 (v := .agg #[.bool false, .bool true, .int .i64 0, .int .i64 0, .int .u64 d.tm, .int .i64 0, r67, .nilIface]) h115 rfl fun a116 h116 => ?_; clear h115
  refine pwD h116 rfl (op_storeN rfl rfl rfl (all_cons rfl (all_cons rfl (all_cons rfl (all_cons rfl (all_cons rfl (all_cons rfl (all_cons (row_one hq68) (all_cons rfl all_nil)))))))) (by kernel_rfl) hk94 rfl) ?_; clear h116
  rintro _ w118 a117 ⟨hk119, hz120, hg121⟩ h117
  have hk119' : Blk w118 N11 83 #[.bool false, .bool true, .int .i64 0, .int .i64 0, .int .u64 d.tm, .int .i64 0, r67, .nilIface] := hk119; clear hk119
  have hz122 := hg121.size
  refine pl_nil ?_
  refine co_then ?_
  refine wp_ret ?_
  refine co_retC (Q := fun _ _ _ => True) h117 rfl rfl hk119' Try.underlying83 rfl (by kernel_rfl) ?_
  have hr123 := row_kept_at hq68 hg121 (own_neT hq68 hk94 (by decide))
  have hB124 := hb_at hB91 hg121 (by omega)
  exact ⟨r67, rfl, (row_lows hr123 (by omega)), hB124⟩
 ·
  rw [hc90] at h89
  refine pk0 (v := subV v2 0 (pgN d pl) 2) h89 rfl fun a125 h125 => ?_; clear h89
  refine pk (v := .int .i64 (((pl.take (pgN d pl)).length : Nat) : Int)) h125 rfl (rn_len rfl rfl Try.underlying33 (sl_take (hp2.below hB91) (pgN d pl) (by omega))) fun a126 h126 => ?_; clear h125
  refine pk0 (v := .bool (decide ((((pl.take (pgN d pl)).length : Nat) : Int) > 0))) h126 rfl fun a127 h127 => ?_; clear h126
  refine pk0 (v := .bool (decide ((((pl.take (pgN d pl)).length : Nat) : Int) > 0))) h127 rfl fun a128 h128 => ?_; clear h127
  refine pk0 (v := .bool (decide ((((pl.take (pgN d pl)).length : Nat) : Int) > 0))) h128 rfl fun a129 h129 => ?_; clear h128
  cases hc130 : (decide ((((pl.take (pgN d pl)).length : Nat) : Int) > 0))
  ·
   rw [hc130] at h129
   have hp131 : ¬ ((((pl.take (pgN d pl)).length : Nat) : Int) > 0) := of_decide_eq_false hc130
   clear hc130
   refine psk h129 rfl fun a132 h132 => ?_; clear h129
   refine psk h132 rfl fun a133 h133 => ?_; clear h132
   refine psk h133 rfl fun a134 h134 => ?_; clear h133
   refine psk h134 rfl fun a135 h135 => ?_; clear h134
   refine psk h135 rfl fun a136 h136 => ?_; clear h135
   refine psk h136 rfl fun a137 h137 => ?_; clear h136
   refine psk h137 rfl fun a138 h138 => ?_; clear h137
   refine psk h138 rfl fun a139 h139 => ?_; clear h138
   refine psk h139 rfl fun a140 h140 => ?_; clear h139
   refine pk0 (v := .bool false) h140 rfl fun a141 h141 => ?_; clear h140
   refine pl_nil ?_
   refine co_then ?_
   refine co_false h141 rfl ?_
   refine wp_skip ?_
   refine co_then ?_
   refine co_seq ?_
   refine co_reg ?_
   refine pk0 (v := pt B 0) h141 rfl fun a142 h142 => ?_; clear h141
   refine pk0 (v := pt B 0) h142 rfl fun a143 h143 => ?_; clear h142
   refine pk0 (v := pt B 9) h143 rfl fun a144 h144 => ?_; clear h143
   refine pk (v := .int .u64 d.tm) h144 rfl (rn_load1 rfl rfl Try.isAgg22 (hk79.cell rfl)) fun a145 h145 => ?_; clear h144
   refine pk0 (v := r67) h145 rfl fun a146 h146 => ?_; clear h145
   refine pk (v := .agg #[.int .i64 0, .int .i64 0, .int .u64 d.tm, .int .i64 0, r67]) h146 rfl (by obtain ⟨_, _, _, hq⟩ := row_form hq68; subst hq; kernel_rfl) fun a147 h147 => ?_; clear h146
   refine pk0 (v := .agg #[.bool false, .bool true, .int .i64 0, .int .i64 0, .int .u64 d.tm, .int .i64 0, r67, .nilIface]) h147 rfl fun a148 h148 => ?_; clear h147
   refine pwD h148 rfl (op_storeN rfl rfl rfl (all_cons rfl (all_cons rfl (all_cons rfl (all_cons rfl (all_cons rfl (all_cons rfl (all_cons (row_one hq68) (all_cons rfl all_nil)))))))) (by kernel_rfl) hk94 rfl) ?_; clear h148
   rintro _ w150 a149 ⟨hk151, hz152, hg153⟩ h149
   have hk151' : Blk w150 N11 83 #[.bool false, .bool true, .int .i64 0, .int .i64 0, .int .u64 d.tm, .int .i64 0, r67, .nilIface] := hk151; clear hk151
   have hz154 := hg153.size
   refine pl_nil ?_
   refine co_then ?_
   refine wp_ret ?_
   refine co_retC (Q := fun _ _ _ => True) h149 rfl rfl hk151' Try.underlying83 rfl (by kernel_rfl) ?_
   have hr155 := row_kept_at hq68 hg153 (own_neT hq68 hk94 (by decide))
   have hB156 := hb_at hB91 hg153 (by omega)
   exact ⟨r67, rfl, (row_lows hr155 (by omega)), hB156⟩
  ·
   rw [hc130] at h129
   have hp157 : (((pl.take (pgN d pl)).length : Nat) : Int) > 0 := of_decide_eq_true hc130
   clear hc130
   refine pk0 (v := r67) h129 rfl fun a158 h158 => ?_; clear h129
   refine pk (v := .int .i64 (((d.prs ++ (pl.take (pgN d pl))).length : Nat) : Int)) h158 rfl (rn_lenOwn rfl rfl Try.underlying33 hq68) fun a159 h159 => ?_; clear h158
   refine pk0 (v := pt B 0) h159 rfl fun a160 h160 => ?_; clear h159
   refine pk0 (v := pt B 0) h160 rfl fun a161 h161 => ?_; clear h160
   refine pk0 (v := pt B 0) h161 rfl fun a162 h162 => ?_; clear h161
   refine pk0 (v := pt B 2) h162 rfl fun a163 h163 => ?_; clear h162
   refine pk0 (v := pt B 7) h163 rfl fun a164 h164 => ?_; clear h163
   refine pk (v := .int .i64 d.n) h164 rfl (rn_load1 rfl rfl Try.isAgg3 (hk79.cell rfl)) fun a165 h165 => ?_; clear h164
   refine pk0 (v := .bool (decide ((((d.prs ++ (pl.take (pgN d pl))).length : Nat) : Int) < d.n))) h165 rfl fun a166 h166 => ?_; clear h165
   refine pk0 (v := .bool (decide ((((d.prs ++ (pl.take (pgN d pl))).length : Nat) : Int) < d.n))) h166 rfl fun a167 h167 => ?_; clear h166
   refine pl_nil ?_
   refine co_then ?_
   cases hc168 : (decide ((((d.prs ++ (pl.take (pgN d pl))).length : Nat) : Int) < d.n))
   ·
    rw [hc168] at h167
    have hp169 : ¬ ((((d.prs ++ (pl.take (pgN d pl))).length : Nat) : Int) < d.n) := of_decide_eq_false hc168
    clear hc168
    refine co_false h167 rfl ?_
    refine wp_skip ?_
    refine co_then ?_
    refine co_seq ?_
    refine co_reg ?_
    refine pk0 (v := pt B 0) h167 rfl fun a170 h170 => ?_; clear h167
    refine pk0 (v := pt B 0) h170 rfl fun a171 h171 => ?_; clear h170
    refine pk0 (v := pt B 9) h171 rfl fun a172 h172 => ?_; clear h171
    refine pk (v := .int .u64 d.tm) h172 rfl (rn_load1 rfl rfl Try.isAgg22 (hk79.cell rfl)) fun a173 h173 => ?_; clear h172
    refine pk0 (v := r67) h173 rfl fun a174 h174 => ?_; clear h173
    refine pk (v := .agg #[.int .i64 0, .int .i64 0, .int .u64 d.tm, .int .i64 0, r67]) h174 rfl (by obtain ⟨_, _, _, hq⟩ := row_form hq68; subst hq; kernel_rfl) fun a175 h175 => ?_; clear h174
    refine pk0 (v := .agg #[.bool false, .bool true, .int .i64 0, .int .i64 0, .int .u64 d.tm, .int .i64 0, r67, .nilIface]) h175 rfl fun a176 h176 => ?_; clear h175
    refine pwD h176 rfl (op_storeN rfl rfl rfl (all_cons rfl (all_cons rfl (all_cons rfl (all_cons rfl (all_cons rfl (all_cons rfl (all_cons (row_one hq68) (all_cons rfl all_nil)))))))) (by kernel_rfl) hk94 rfl) ?_; clear h176
    rintro _ w178 a177 ⟨hk179, hz180, hg181⟩ h177
    have hk179' : Blk w178 N11 83 #[.bool false, .bool true, .int .i64 0, .int .i64 0, .int .u64 d.tm, .int .i64 0, r67, .nilIface] := hk179; clear hk179
    have hz182 := hg181.size
    refine pl_nil ?_
    refine co_then ?_
    refine wp_ret ?_
    refine co_retC (Q := fun _ _ _ => True) h177 rfl rfl hk179' Try.underlying83 rfl (by kernel_rfl) ?_
    have hr183 := row_kept_at hq68 hg181 (own_neT hq68 hk94 (by decide))
    have hB184 := hb_at hB91 hg181 (by omega)
    exact ⟨r67, rfl, (row_lows hr183 (by omega)), hB184⟩
   ·
    rw [hc168] at h167
    have hp185 : (((d.prs ++ (pl.take (pgN d pl))).length : Nat) : Int) < d.n := of_decide_eq_true hc168
    clear hc168
    refine co_true h167 rfl ?_
    refine co_seq ?_
    refine co_reg ?_
    refine pk0 (v := subV v2 0 (pgN d pl) 2) h167 rfl fun a186 h186 => ?_; clear h167
    refine pk0 (v := subV v2 0 (pgN d pl) 2) h186 rfl fun a187 h187 => ?_; clear h186
    refine pk (v := .int .i64 (((pl.take (pgN d pl)).length : Nat) : Int)) h187 rfl (rn_len rfl rfl Try.underlying33 (sl_take (hp2.below hB91) (pgN d pl) (by omega))) fun a188 h188 => ?_; clear h187
    refine pk (v := .int .i64 ((((pl.take (pgN d pl)).length : Nat) : Int) - 1)) h188 rfl (rn_arith rfl rfl rfl rfl rfl rfl (IntWalk.i64_in _ (by omega))) fun a189 h189 => ?_; clear h188
    obtain ⟨y190, hy190⟩ : ∃ z, (pl.take (pgN d pl))[((((pl.take (pgN d pl)).length : Nat) : Int) - 1).toNat]? = some z := ⟨_, List.getElem?_eq_getElem (by first | omega | (simp; done) | (simp; omega))⟩
    have oky190 := (fun z hz => hok2 z (List.mem_of_mem_take hz)) _ (List.mem_of_getElem? hy190)
    have k191 : y190.1.size ≤ 9223372036854775807 := oky190
    refine pk (v := pt (blkOf (subV v2 0 (pgN d pl) 2)) (offOf (subV v2 0 (pgN d pl) 2) + (((((pl.take (pgN d pl)).length : Nat) : Int) - 1).toNat) * 2)) h189 rfl (rn_index rfl rfl rfl Try.underlying33 Try.sizeOf57 (sl_take (hp2.below hB91) (pgN d pl) (by omega)) (by omega) (by first | omega | (simp; done) | (simp; omega))) fun a192 h192 => ?_; clear h189
    refine pk0 (v := pt (blkOf (subV v2 0 (pgN d pl) 2)) (offOf (subV v2 0 (pgN d pl) 2) + (((((pl.take (pgN d pl)).length : Nat) : Int) - 1).toNat) * 2)) h192 rfl fun a193 h193 => ?_; clear h192
    refine pk (v := .string y190.1) h193 rfl (rn_load1 rfl rfl Try.isAgg9 ((sl_at (sl_take (hp2.below hB91) (pgN d pl) (by omega)) hy190) 0 _ rfl)) fun a194 h194 => ?_; clear h193
    refine pw h194 rfl (op_call (args := #[.string y190.1]) (R := fun res xw => res = .string (nxK y190.1) ∧ Below w65.heap.size w65 xw) rfl rfl rfl (by kernel_rfl) (by kernel_rfl) (Try.call94 _ _) (next_any y190.1 w65 (by omega)) (by rintro e x ⟨rfl, h⟩; exact ⟨_, rfl, rfl, h⟩)) ?_; clear h194
    rintro _ w196 a195 ⟨rfl, hb197⟩ h195
    have hz198 := hb197.size
    refine pk0 (v := .string (nxK y190.1)) h195 rfl fun a199 h199 => ?_; clear h195
    refine pl_nil ?_
    refine co_then ?_
    refine co_seq ?_
    refine co_reg ?_
    refine pk0 (v := .string (nxK y190.1)) h199 rfl fun a200 h200 => ?_; clear h199
    refine pk0 (v := .bool (!((nxK y190.1 : ByteArray).toList == (⟨#[]⟩ : ByteArray).toList))) h200 rfl fun a201 h201 => ?_; clear h200
    refine pl_nil ?_
    refine co_then ?_
    have hB203 := hb_call hB91 hb197
    have hk204 := hk60.below hb69
    have hk205 := hk204.below hb197
    cases hc202 : (!((nxK y190.1 : ByteArray).toList == (⟨#[]⟩ : ByteArray).toList))
    ·
     rw [hc202] at h201
     refine co_false h201 rfl ?_
     refine wp_skip ?_
     refine co_then ?_
     refine co_seq ?_
     refine co_reg ?_
     refine pk0 (v := pt B 0) h201 rfl fun a206 h206 => ?_; clear h201
     refine pk0 (v := pt B 0) h206 rfl fun a207 h207 => ?_; clear h206
     refine pk0 (v := pt B 9) h207 rfl fun a208 h208 => ?_; clear h207
     have hk209 := hk79.below hb197
     refine pk (v := .int .u64 d.tm) h208 rfl (rn_load1 rfl rfl Try.isAgg22 (hk209.cell rfl)) fun a210 h210 => ?_; clear h208
     refine pk0 (v := r67) h210 rfl fun a211 h211 => ?_; clear h210
     have hr212 := row_kept_new hq68 (below_grown hb197)
     refine pk (v := .agg #[.int .i64 0, .int .i64 0, .int .u64 d.tm, .int .i64 0, r67]) h211 rfl (by obtain ⟨_, _, _, hq⟩ := row_form hr212; subst hq; kernel_rfl) fun a213 h213 => ?_; clear h211
     refine pk0 (v := .agg #[.bool false, .bool true, .int .i64 0, .int .i64 0, .int .u64 d.tm, .int .i64 0, r67, .nilIface]) h213 rfl fun a214 h214 => ?_; clear h213
     have hk220 := hk94.below hb197
     refine pwD h214 rfl (op_storeN rfl rfl rfl (all_cons rfl (all_cons rfl (all_cons rfl (all_cons rfl (all_cons rfl (all_cons rfl (all_cons (row_one hr212) (all_cons rfl all_nil)))))))) (by kernel_rfl) hk220 rfl) ?_; clear h214
     rintro _ w216 a215 ⟨hk217, hz218, hg219⟩ h215
     have hk217' : Blk w216 N11 83 #[.bool false, .bool true, .int .i64 0, .int .i64 0, .int .u64 d.tm, .int .i64 0, r67, .nilIface] := hk217; clear hk217
     have hz221 := hg219.size
     refine pl_nil ?_
     refine co_then ?_
     refine wp_ret ?_
     refine co_retC (Q := fun _ _ _ => True) h215 rfl rfl hk217' Try.underlying83 rfl (by kernel_rfl) ?_
     have hr222 := row_kept_at hr212 hg219 (own_neT hr212 hk220 (by decide))
     have hB223 := hb_at hB203 hg219 (by omega)
     exact ⟨r67, rfl, (row_lows hr222 (by omega)), hB223⟩
    ·
     rw [hc202] at h201
     refine co_true h201 rfl ?_
     refine co_seq ?_
     refine dr_gen (fun x => Below w.heap.size w x ∧ Blk x B 77 #[.int .i64 d.c, .int .i64 d.rq, .int .i64 2, .int .i64 d.nd, .string d.k0, .string d.to_, .int .u64 d.at0, .int .i64 d.n, ov, .int .u64 d.tm, .string d.key, pv]) (by kernel_rfl) (fun w224 hg225 => ?_) (fun w224 hg225 => ?_)
     ·
      have hz226 := hg225.size
      have hB227 := hb_new hB203 hg225
      have hk228 := hk79.below hb197
      have hk229 := hk228.kept hg225 (by simp)
      exact ⟨hB227, hk229⟩
     have hz230 := hg225.size
     have hB231 := hb_new hB203 hg225
     have hk232 := hk79.below hb197
     have hk233 := hk232.kept hg225 (by simp)
     refine dk0 0 (v := pt B 0) h201 rfl rfl ⟨hB231, hk233⟩ fun a234 h234 => ?_; clear h201
     refine dk0 1 (v := pt B 0) h234 rfl rfl ⟨hB231, hk233⟩ fun a235 h235 => ?_; clear h234
     refine dk0 2 (v := pt B 0) h235 rfl rfl ⟨hB231, hk233⟩ fun a236 h236 => ?_; clear h235
     refine dk 3 (v := .agg #[.int .i64 d.c, .int .i64 d.rq, .int .i64 2, .int .i64 d.nd, .string d.k0, .string d.to_, .int .u64 d.at0, .int .i64 d.n, ov]) h236 rfl rfl ⟨hB231, hk233⟩ (fun x hx => (rn_loadN rfl rfl Try.underlying71 rfl (by kernel_rfl) (blk_part hx.2 0 (by rfl)))) fun a237 h237 => ?_; clear h236
     refine dk0 4 (v := pt B 0) h237 rfl rfl ⟨hB231, hk233⟩ fun a238 h238 => ?_; clear h237
     refine dk0 5 (v := pt B 0) h238 rfl rfl ⟨hB231, hk233⟩ fun a239 h239 => ?_; clear h238
     refine dk0 6 (v := pt B 9) h239 rfl rfl ⟨hB231, hk233⟩ fun a240 h240 => ?_; clear h239
     refine dk 7 (v := .int .u64 d.tm) h240 rfl rfl ⟨hB231, hk233⟩ (fun x hx => (rn_load1 rfl rfl Try.isAgg22 (hx.2.cell rfl))) fun a241 h241 => ?_; clear h240
     refine dk0 8 (v := .string (nxK y190.1)) h241 rfl rfl ⟨hB231, hk233⟩ fun a242 h242 => ?_; clear h241
     refine dk0 9 (v := r67) h242 rfl rfl ⟨hB231, hk233⟩ fun a243 h243 => ?_; clear h242
     have hr244 := row_kept_new hq68 (below_grown hb197)
     have hr245 := row_kept_new hr244 hg225
     refine dk 10 (v := .agg #[.int .i64 d.c, .int .i64 d.rq, .int .i64 2, .int .i64 d.nd, .string d.k0, .string d.to_, .int .u64 d.at0, .int .i64 d.n, ov, .int .u64 d.tm, .string (nxK y190.1), r67]) h243 rfl rfl ⟨hB231, hk233⟩ (fun x hx => (by obtain ⟨_, _, _, hq⟩ := row_form hr245; subst hq; kernel_rfl)) fun a246 h246 => ?_; clear h243
     refine d1 11 h246 rfl rfl (op_new (v := fun N => pt N 0) (T := 77) (cs := #[.int .i64 d.c, .int .i64 d.rq, .int .i64 2, .int .i64 d.nd, .string d.k0, .string d.to_, .int .u64 d.at0, .int .i64 d.n, ov, .int .u64 d.tm, .string (nxK y190.1), r67]) (by kernel_rfl) (by kernel_rfl) (by kernel_rfl)) ?_ ?_; clear h246
     ·
      rintro _ w248 ⟨N249, rfl, hN252, hz253, hk251, hg250⟩
      have ha254 := row_fresh hr245 hN252
      have hz255 := hg250.size
      have hB256 := hb_new hB231 hg250
      have hk257 := hk233.kept hg250 (by simp)
      exact ⟨hB256, hk257⟩
     rintro _ w248 a247 ⟨N249, rfl, hN252, hz253, hk251, hg250⟩ h247
     have ha254 := row_fresh hr245 hN252
     have hz255 := hg250.size
     try dsimp only at h247
     have hB256 := hb_new hB231 hg250
     have hk257 := hk233.kept hg250 (by simp)
     refine dk0 12 (v := .iface 75 (pt N249 0)) h247 rfl rfl ⟨hB256, hk257⟩ fun a258 h258 => ?_; clear h247
     refine dk0 13 (v := .agg #[.bool true, .bool false, .int .i64 0, .int .i64 0, .int .u64 0, .int .i64 0, .slice none 0 0, .iface 75 (pt N249 0)]) h258 rfl rfl ⟨hB256, hk257⟩ fun a259 h259 => ?_; clear h258
     have hk265 := hk94.below hb197
     have hk266 := hk265.kept hg225 (by simp)
     have hk267 := hk266.kept hg250 (by simp)
     refine d1D 14 h259 rfl rfl (op_storeN rfl rfl rfl (all_cons rfl (all_cons rfl (all_cons rfl (all_cons rfl (all_cons rfl (all_cons rfl (all_cons rfl (all_cons rfl all_nil)))))))) (by kernel_rfl) hk267 rfl) ?_ ?_; clear h259
     ·
      rintro _ w261 ⟨hk262, hz263, hg264⟩
      have hk262' : Blk w261 N11 83 #[.bool true, .bool false, .int .i64 0, .int .i64 0, .int .u64 0, .int .i64 0, .slice none 0 0, .iface 75 (pt N249 0)] := hk262; clear hk262
      have hz268 := hg264.size
      have hB269 := hb_at hB256 hg264 (by omega)
      have hk270 := hk257.kept hg264 (by simp; omega)
      exact ⟨hB269, hk270⟩
     rintro _ w261 a260 ⟨hk262, hz263, hg264⟩ h260
     have hk262' : Blk w261 N11 83 #[.bool true, .bool false, .int .i64 0, .int .i64 0, .int .u64 0, .int .i64 0, .slice none 0 0, .iface 75 (pt N249 0)] := hk262; clear hk262
     have hz268 := hg264.size
     refine dr_done (by kernel_rfl) ?_
     refine co_then ?_
     refine wp_ret ?_
     refine co_thenR ?_
     refine co_retC (Q := fun _ _ _ => True) h260 rfl rfl hk262' Try.underlying83 rfl (by kernel_rfl) ?_
     exfalso; exact more_n hmo (by first | rfl | assumption) (by omega) (by simp only [decide_eq_true_eq, List.length_append] at *; omega) (by rw [last_of (d := d) hy190 (by omega)]; first | assumption | (simp_all; done))
end Go.Proofs.Ytaoibbakflacoaa
