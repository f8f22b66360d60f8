/- Put together: LibHQa, PexHQa, SlHQa, PexBHQa, AppHQa, PexCHQa, PexDHQa, PexTHQa, MapHQa, MapCHQa, MapRHQa, MapOHQa, ButHQa, AppStrHQa, PexUHQa, GoHQa, StrsHQa, LinkAHQa, PrAHQa, HoAHQa, LinkBHQa, LinkCHQa, LinkDHQa, LinkEHQa. Conditions: as each says. -/
import Derived.Test.YtpcbgkmnjmiigaaRows
import Derived.WalkKit
import Derived.WalkSpells
import Derived.WalkLawsBesides
import Derived.Deep.LoopGhost
import Derived.Lib.Hide
import Derived.Laws.IdiomStrings
import Derived.Lib.QuietBelow
import Derived.BigQuiet
import Derived.PlainAid
import Derived.Lib.SmallJoins
import Derived.Deep.MidRow
import Derived.Deep.RegionHeld3
import Derived.Laws.AppendOwnNone
import Derived.Deep.AppendLies
import Derived.Deep.RegionLaw
import Derived.StringKeys
import Derived.Laws.StructEq
import Derived.Maps.RangeRun
import Derived.MapKept
import Derived.OwnWalk
import Derived.Lib.AppendStr
import Derived.Laws.BytesArg
import Derived.SliceStrings
import Derived.SizedLaws
import Derived.Shelf.Sort.Plain
/- Small laws on worlds, rows and bounds that the walks of this seat share. Conditions: none. -/
namespace Go.Proofs.Ytpcbgkmnjmiigaa
open Go.RowKit

theorem ret_int {k : IntKind} {a b : Int} (h : a = b) : Ending.returned (.int k a) = .returned (.int k b) := by rw [h]
/-- One new cell, at its block's head. -/
theorem one_cell (w : World) (v : Value) (T : TypeId) : ∀ (j : Nat) u, [v][j]? = some u → (w.alloc (.cells #[v] T)).cell? ((⟨w.heap.size, 0, none⟩ : Addr).add j) = some u := by
  intro j u hj
  match j, hj with
  | 0, hj => simp at hj; subst hj; rw [Addr.add_lit, World.cell?_alloc_mark]; rfl
/-- A row of a world is a row of what comes behind it. -/
theorem row_below {B : Nat} {e : TypeId} {k : Nat} {v : Value} {n : Nat} {xs : List Value} {w w' : World} (h : w.ownsRow B e k v n xs) (hb : Below w.heap.size w w') : w'.ownsRow B e k v n xs := by
  obtain ⟨h1, h2⟩ := h
  refine ⟨h1, ?_⟩
  rcases h2 with h2 | ⟨g, cap, cur, hv, hg, hh, r⟩
  · exact Or.inl h2
  · exact Or.inr ⟨g, cap, cur, hv, hg, by rw [hb.block g (Array.getElem?_eq_some_iff.1 hh).1]; exact hh, r⟩
/-- An owned row of cells of one value each, as a slice: its cells. -/
theorem row_view {w : World} {B : Nat} {e : TypeId} {v : Value} {n : Nat} {xs : List Value} (h : w.ownsRow B e 1 v n xs) :
    ∃ ao c, v = .slice ao n c ∧ n ≤ 9223372036854775807 ∧ ∀ j, j < n → ∃ g, ao = some ⟨g, 0, none⟩ ∧ B ≤ g ∧ w.cell? ⟨g, j, none⟩ = xs[j]? := by
  rcases h.2 with ⟨hv, hn⟩ | ⟨g, cap, cur, hv, hg, _⟩
  · subst hn; exact ⟨none, 0, hv, by omega, fun j hj => absurd hj (by omega)⟩
  · subst hv
    obtain ⟨_, hnc, hcm, _⟩ := ‹_ ∧ _ ∧ _ ∧ _›
    exact ⟨_, _, rfl, by unfold maxLen at hcm; omega, fun j hj => ⟨g, rfl, hg, h.cellAt j (by omega)⟩⟩
theorem below_draws {B : Nat} {w w' : World} (h : Below B w w') (n : Nat) : Below B w (w'.drewN n) := ⟨h.os, h.tape, h.output, h.size, h.block⟩
/-- A cell of a world, read behind it. -/
theorem cell_below {w w' : World} (h : Below w.heap.size w w') {a : Addr} {v : Value} (hc : w.cell? a = some v) : w'.cell? a = some v :=
  (h.cell (World.block_lt_of_cell? w a hc)).trans hc
end Go.Proofs.Ytpcbgkmnjmiigaa

/- Steps of a walk over known slots: what a frame's slots hold is kept as a list; each operation, branch and loop by one law. Conditions: none. -/
namespace Go.Proofs.Ytpcbgkmnjmiigaa
open Go.RowKit

section
variable {P : Program} {n : Nat} {m : List (Nat × Value)} {a : Act} {w : World}

/-- What is known of a frame: its size, that nothing is deferred, what some of its slots hold. -/
structure Slots (n : Nat) (m : List (Nat × Value)) (a : Act) : Prop where
  size : a.tmps.size = n
  defers : a.defers = []
  look : ∀ t v, m.lookup t = some v → a.tmps.getD t undef = v

def ev (m : List (Nat × Value)) : Operand → Option Value
  | .tmp t => m.lookup t
  | .const v => some v
  | .global g => some (.pointer (some ⟨g, 0, none⟩))
  | .func f => some (.func (.func f) #[] #[])
theorem Slots.ev (h : Slots n m a) {x : Operand} {v : Value} (hx : ev m x = some v) : a.eval x = v := by
  cases x with
  | tmp t => exact h.look t v hx
  | const u => simpa [Go.Proofs.Ytpcbgkmnjmiigaa.ev, Act.eval] using hx
  | global g => simpa [Go.Proofs.Ytpcbgkmnjmiigaa.ev, Act.eval] using hx
  | func f => simpa [Go.Proofs.Ytpcbgkmnjmiigaa.ev, Act.eval] using hx
def lk (m : List (Nat × Value)) (x : Operand) : Value := (ev m x).getD undef
def okOps (m : List (Nat × Value)) (o : Op) : Bool := o.operands.all fun x => (ev m x).isSome
theorem Slots.lk (h : Slots n m a) {x : Operand} (hx : (Go.Proofs.Ytpcbgkmnjmiigaa.ev m x).isSome = true) : a.eval x = lk m x := by
  obtain ⟨v, hv⟩ := Option.isSome_iff_exists.1 hx
  rw [h.ev hv]; simp [Go.Proofs.Ytpcbgkmnjmiigaa.lk, hv]
theorem Slots.put {d : Nat} {v : Value} (h : Slots n m a) (hd : d < n) : Slots n ((d, v) :: m) (a.put (some d) v) := by
  obtain ⟨h1, h2, h3⟩ := h
  refine ⟨by simp [Act.put, h1], h2, fun t u ht => ?_⟩
  rw [List.lookup_cons] at ht
  by_cases e : t = d
  · subst e
    simp at ht
    subst ht
    simp [Act.put, h1, hd]
  · have : (t == d) = false := by simpa using e
    rw [this] at ht
    have := h3 t u ht
    simp only [Act.put, Array.getD_eq_getD_getElem?] at this ⊢
    rw [Array.getElem?_setIfInBounds_ne (by omega)]
    exact this
/-- Less is known. -/
def Sub (m : List (Nat × Value)) : List (Nat × Value) → Prop
  | [] => True
  | p :: r => m.lookup p.1 = some p.2 ∧ Sub m r
theorem slot_eq {m : List (Nat × Value)} {t : Nat} {v v' : Value} (h : m.lookup t = some v) (e : v = v') : m.lookup (t, v').1 = some (t, v').2 := by subst e; exact h
theorem Sub.get {m : List (Nat × Value)} : ∀ {l : List (Nat × Value)}, Sub m l → ∀ t v, l.lookup t = some v → m.lookup t = some v
  | [], _, t, v, h => by simp at h
  | p :: r, hs, t, v, h => by
    rw [List.lookup_cons] at h
    by_cases e : t = p.1
    · subst e; simp at h; subst h; exact hs.1
    · have : (t == p.1) = false := by simpa using e
      rw [this] at h
      exact hs.2.get t v h
theorem Slots.sub {l : List (Nat × Value)} (h : Slots n m a) (hs : Sub m l) : Slots n l a := ⟨h.size, h.defers, fun t v ht => h.look t v (hs.get t v ht)⟩
theorem Slots.none {dst : Option Tmp} {v : Value} (h : Slots n m a) (hd : dst = none) : Slots n m (a.put dst v) := by subst hd; exact h

/-- Operation o, in a frame of which m is known and in world w: its value and the world behind it. -/
def Op1 (P : Program) (n : Nat) (m : List (Nat × Value)) (o : Oper) (w : World) (R : Value → World → Prop) : Prop :=
  ∀ a, Slots n m a → ∀ (N : Act → World → Prop) (Q : Exit → Act → World → Prop), (∀ v w', R v w' → N (a.put o.dst v) w') → o.wp P a w N Q

variable {o : Oper} {ops : Array Oper} {rest : List Oper} {Q : Exit → Act → World → Prop} {R : Value → World → Prop}
theorem op_run {v : Value} {w' : World} (hok : okOps m o.op = true) (hsel : (match o.op with | .select .. => true | _ => false) = false) (hrun : (execOp (lk m) o).run P w = .ok (.value v) w') : Op1 P n m o w (fun u x => u = v ∧ x = w') := by
  intro a ha N Q h
  have he : execOp a.eval o = execOp (lk m) o := execOp_congr o (fun cs b e => by simp [e] at hsel) (fun x hx => ha.lk (Array.all_eq_true_iff_forall_mem.1 hok x hx))
  unfold Oper.wp
  rw [he, hrun]
  exact h _ _ ⟨rfl, rfl⟩
theorem Op1.mono {R' : Value → World → Prop} (h : Op1 P n m o w R) (hr : ∀ v w', R v w' → R' v w') : Op1 P n m o w R' := fun a ha N Q hN => h a ha N Q fun v w' hv => hN v w' (hr v w' hv)
/-- A call of a Go function. -/
theorem op_call {c : Call} {x : Operand} {f : FuncId} {args : Array Value} {E : Ending → World → Prop} (ho : o.op = .call c) (hc : c.callee = .value x) (hf : ev m x = some (.func (.func f) #[] #[]))
    (hok : okOps m o.op = true) (hargs : c.args.map (lk m) = args) (hcall : (callFunc f args).run P w = .ok (.enter f args) w) (h : Calls P f args w E) (hE : ∀ e w', E e w' → ∃ v, e = .returned v ∧ R v w') : Op1 P n m o w R := by
  intro a ha N Q hN
  have he : execOp a.eval o = execOp (lk m) o := execOp_congr o (fun cs b e => by simp [e] at ho) (fun x hx => ha.lk (Array.all_eq_true_iff_forall_mem.1 hok x hx))
  unfold Oper.wp
  rw [he]
  have hfx : lk m x = .func (.func f) #[] #[] := by simp [lk, hf]
  have : (execOp (lk m) o).run P w = .ok (.enter f args) w := by
    simp only [execOp, ho, resolve, hc, hfx, Deferred.ofValue, hargs, Sem.run_bind, Sem.run_pure, Result.andThen_ok, invoke]
    simpa using hcall
  rw [this, Oper.upon_enter]
  refine h.mono fun e w' he => ?_
  obtain ⟨v, rfl, hv⟩ := hE e w' he
  exact hN v w' hv
theorem lk_ev {x : Operand} {v : Value} (hx : ev m x = some v) : lk m x = v := by simp [lk, hx]
/-- One cell is loaded. -/
theorem rn_load1 {t : TypeId} {x : Operand} {p : Addr} {v : Value} (ho : o.op = .load t x) (hx : ev m x = some (.pointer (some p))) (ht : ∀ w : World, (isAgg t).run P w = .ok false w) (hc : w.cell? p = some v) : (execOp (lk m) o).run P w = .ok (.value v) w := by
  unfold execOp
  have hl : (Instr.loadAt t (.pointer (some p))).run P w = .ok v w := by
    simp [Instr.loadAt, Instr.sureAddr, loadVar, ht, Sem.run_bind, load, Sem.run, hc]
  simp only [ho, lk_ev hx, Sem.run_bind, hl, Result.andThen_ok, Sem.run_pure]
/-- Several cells are loaded. -/
theorem rn_loadN {t : TypeId} {x : Operand} {b o' : Nat} {cs : List Value} {d : TypeDesc} (ho : o.op = .load t x) (hx : ev m x = some (.pointer (some ⟨b, o', none⟩))) (hu : P.underlying t = some d) (hd : d.isRow = true) (hi : (P.info? t).map (·.size) = some cs.length) (hc : w.rangeAt b o' cs) : (execOp (lk m) o).run P w = .ok (.value (.agg cs.toArray)) w := by
  unfold execOp
  simp only [ho, lk_ev hx, Instr.loadAt, Instr.sureAddr, Sem.run_bind, Sem.run_pure, Result.andThen_ok, run_loadVar_mid w b o' t cs d hc hu hd hi]
/-- An int's sum, difference, product that is in range. -/
theorem rn_arith {op : BinOp} {T T' : TypeId} {x y : Operand} {k : IntKind} {i j z : Int} (ho : o.op = .binOp op T x y T') (hx : ev m x = some (.int k i)) (hy : ev m y = some (.int k j)) (hop : Op.intArith op k i j = .pure (.int k (k.wrap z))) (hne : (op matches .shl | .shr | .eql | .neq) = false) (hcl : binOp op T (.int k i) (.int k j) = Op.intArith op k i j) (hz : k.wrap z = z) : (execOp (lk m) o).run P w = .ok (.value (.int k z)) w := by
  unfold execOp
  have hg : (eqGuard op T x y (.int k i) (.int k j)).run P w = .ok () w := by
    unfold eqGuard
    cases op <;> simp at hne <;> rfl
  simp only [ho, lk_ev hx, lk_ev hy, Sem.run_bind, hg, hcl, hop, hz, Result.andThen_ok]
  rfl

theorem rn_arith' {op : BinOp} {T T' : TypeId} {x y : Operand} {k : IntKind} {i j z z' : Int} (ho : o.op = .binOp op T x y T') (hx : ev m x = some (.int k i)) (hy : ev m y = some (.int k j)) (hop : Op.intArith op k i j = .pure (.int k (k.wrap z))) (hne : (op matches .shl | .shr | .eql | .neq) = false) (hcl : binOp op T (.int k i) (.int k j) = Op.intArith op k i j) (hz : k.wrap z = z) (he : z = z') : (execOp (lk m) o).run P w = .ok (.value (.int k z')) w := by
  subst he; exact rn_arith ho hx hy hop hne hcl hz
section minmax
variable {ts : Array TypeId} {x y : Operand} {k : IntKind} {i j : Int}
theorem rn_min1 (ho : o.op = .call { callee := .builtin .min, args := #[x, y], argTypes := ts }) (hx : ev m x = some (.int k i)) (hy : ev m y = some (.int k j)) (_h : True = True) (h : i ≤ j) : (execOp (lk m) o).run P w = .ok (.value (.int k i)) w := by
  unfold execOp
  have hn : ¬ j < i := by omega
  simp [ho, lk_ev hx, lk_ev hy, resolve, invoke, builtin, Builtin.min_, Builtin.min2, hn]
theorem rn_min2 (ho : o.op = .call { callee := .builtin .min, args := #[x, y], argTypes := ts }) (hx : ev m x = some (.int k i)) (hy : ev m y = some (.int k j)) (_h : True = True) (h : j < i) : (execOp (lk m) o).run P w = .ok (.value (.int k j)) w := by
  unfold execOp
  simp [ho, lk_ev hx, lk_ev hy, resolve, invoke, builtin, Builtin.min_, Builtin.min2, h]
theorem rn_max1 (ho : o.op = .call { callee := .builtin .max, args := #[x, y], argTypes := ts }) (hx : ev m x = some (.int k i)) (hy : ev m y = some (.int k j)) (_h : True = True) (h : j ≤ i) : (execOp (lk m) o).run P w = .ok (.value (.int k i)) w := by
  unfold execOp
  have hn : ¬ i < j := by omega
  simp [ho, lk_ev hx, lk_ev hy, resolve, invoke, builtin, Builtin.max_, Builtin.max2, hn]
theorem rn_max2 (ho : o.op = .call { callee := .builtin .max, args := #[x, y], argTypes := ts }) (hx : ev m x = some (.int k i)) (hy : ev m y = some (.int k j)) (_h : True = True) (h : i < j) : (execOp (lk m) o).run P w = .ok (.value (.int k j)) w := by
  unfold execOp
  simp [ho, lk_ev hx, lk_ev hy, resolve, invoke, builtin, Builtin.max_, Builtin.max2, h]
end minmax

/-! ### A plain region -/
theorem pl_nil (h : Q .normal a w) : wpList P ops Q [] a w := h
theorem getD_some {tmps : Array Value} {t : Nat} {b : Bool} (h : tmps.getD t undef = .bool b) : tmps[t]? = some (.bool b) := by
  rw [Array.getD_eq_getD_getElem?] at h
  cases hx : tmps[t]? with
  | none => rw [hx] at h; simp [undef] at h
  | some u => rw [hx] at h; simp at h; rw [h]
/-- Is a guarded operation wanted? -/
def wantB (m : List (Nat × Value)) (ops : Array Oper) (o : Oper) : Option Bool :=
  match o.guard with
  | none => some true
  | some (g, b) => match ((ops[g]?).bind (·.dst)).bind (m.lookup ·) with
    | some (.bool c) => some (c == b)
    | some (.tuple _) => some false
    | _ => none
theorem Slots.wants {c : Bool} (hs : Slots n m a) (h : wantB m ops o = some c) : Region.wanted o (yielded ops a.tmps) = c := by
  unfold wantB at h
  unfold Region.wanted
  cases hg : o.guard with
  | none => rw [hg] at h; simpa using h
  | some p =>
    obtain ⟨g, b⟩ := p
    rw [hg] at h
    simp only at h ⊢
    cases hd : (ops[g]?).bind (·.dst) with
    | none => rw [hd] at h; simp at h
    | some d =>
      rw [hd] at h
      simp only [Option.bind_some] at h
      cases hm : m.lookup d with
      | none => rw [hm] at h; simp at h
      | some u =>
        rw [hm] at h
        cases u <;> simp at h
        · rename_i q
          have := getD_some (hs.look d _ hm)
          simp [yielded, hd, this, h]
        · rename_i q
          subst h
          have h1 := hs.look d _ hm
          rw [Array.getD_eq_getD_getElem?] at h1
          have h2 : yielded ops a.tmps g = Option.none := by
            unfold yielded
            rw [hd]
            simp only [Option.bind_some]
            cases hx : a.tmps[d]? with
            | none => rfl
            | some u => rw [hx] at h1; simp at h1; subst h1; rfl
          rw [h2]; rfl
theorem pl_want {d : Nat} (hs : Slots n m a) (hg : wantB m ops o = some true) (hd : o.dst = some d) (hdn : Nat.blt d n = true) (h1 : Op1 P n m o w R)
    (h : ∀ v w' a', R v w' → Slots n ((d, v) :: m) a' → wpList P ops Q rest a' w') : wpList P ops Q (o :: rest) a w :=
  wpList_step fun K hK => by
    rw [if_pos (hs.wants hg)]
    exact h1 a hs K Q fun v w' hv => hK _ _ (h v w' _ hv (by rw [hd]; exact hs.put (by simpa using hdn)))
theorem pl_doW (hs : Slots n m a) (hg : wantB m ops o = some true) (hd : o.dst = none) (h1 : Op1 P n m o w R)
    (h : ∀ v w' a', R v w' → Slots n m a' → wpList P ops Q rest a' w') : wpList P ops Q (o :: rest) a w :=
  wpList_step fun K hK => by
    rw [if_pos (hs.wants hg)]
    exact h1 a hs K Q fun v w' hv => hK _ _ (h v w' _ hv (hs.none hd))
theorem pl_skip {d : Nat} (hs : Slots n m a) (hg : wantB m ops o = some false) (hd : o.dst = some d) (hdn : Nat.blt d n = true)
    (h : ∀ a', Slots n ((d, undef) :: m) a' → wpList P ops Q rest a' w) : wpList P ops Q (o :: rest) a w :=
  wpList_step fun K hK => by
    rw [if_neg (by simp [hs.wants hg])]
    exact hK _ _ (h _ (by rw [hd]; exact hs.put (by simpa using hdn)))

/-- An operation that leaves the world as it is. -/
theorem pl_val {d : Nat} {v : Value} (hs : Slots n m a) (hg : wantB m ops o = some true) (hd : o.dst = some d) (hdn : Nat.blt d n = true) (hok : okOps m o.op = true) (hsel : (match o.op with | .select .. => true | _ => false) = false) (hrun : (execOp (lk m) o).run P w = .ok (.value v) w)
    (h : ∀ a', Slots n ((d, v) :: m) a' → wpList P ops Q rest a' w) : wpList P ops Q (o :: rest) a w :=
  pl_want hs hg hd hdn (op_run hok hsel hrun) fun _ _ a' ⟨h1, h2⟩ hs' => by subst h1 h2; exact h a' hs'
/-! ### A region that draws its order -/
variable {md : Region.Mode} {S : World → Prop} {fuel : Nat} {listed : Array Bool} {i d : Nat}
abbrev NP (Q : Exit → Act → World → Prop) := NoPanic Q
theorem dr_start {id : Nat} {l : List Oper} (hm : P.follows .mixedOrders = true) (hS : S w.drew) (h : wpAnyH P .any l.toArray (NP Q) S l.length (Array.replicate l.length false) a w.drew) : (Code.region id l.toArray true).wp P Q a w :=
  wp_region_noPanic (wp_region_held_drew (S := S) hm hS fun _ => by simpa using h)
/-- Number i, which yields v in every world that meets S, is taken first. -/
theorem dr_take {v : Value} (hs : Slots n m a) (ho : ops[i]? = some o) (hsel : Region.noSelect ops = true) (hf : Region.free md ops listed i = true) (hr : (Region.ready md ops listed).contains i = true)
    (hw : wantB m ops o = some true) (hd : o.dst = some d) (hdn : Nat.blt d n = true) (hS : S w) (hok : okOps m o.op = true) (hrun : ∀ w, S w → (execOp (lk m) o).run P w = .ok (.value v) w)
    (h : ∀ a', Slots n ((d, v) :: m) a' → wpAnyH P md ops (NP Q) S fuel (listed.setIfInBounds i true) a' w) : wpAnyH P md ops (NP Q) S (fuel + 1) listed a w := by
  have he : execOp a.eval o = execOp (lk m) o := execOp_congr o (fun cs b e => Region.noSelect_spec hsel i o cs b ho e) (fun x hx => hs.lk (Array.all_eq_true_iff_forall_mem.1 hok x hx))
  refine wpAnyH_take ho hsel hf hr (fun _ _ _ h => h) (Or.inl ⟨hs.wants hw, fun w' hw' => by rw [he]; exact hrun w' hw'⟩) hS ?_
  exact h _ (by rw [hd]; exact hs.put (by simpa using hdn))
/-- Number i, which is not wanted. -/
theorem dr_skip (hs : Slots n m a) (ho : ops[i]? = some o) (hsel : Region.noSelect ops = true) (hf : Region.free md ops listed i = true) (hr : (Region.ready md ops listed).contains i = true)
    (hw : wantB m ops o = some false) (hd : o.dst = some d) (hdn : Nat.blt d n = true) (hS : S w)
    (h : ∀ a', Slots n ((d, undef) :: m) a' → wpAnyH P md ops (NP Q) S fuel (listed.setIfInBounds i true) a' w) : wpAnyH P md ops (NP Q) S (fuel + 1) listed a w := by
  refine wpAnyH_take ho hsel hf hr (fun _ _ _ h => h) (Or.inr ⟨hs.wants hw, rfl⟩) hS ?_
  exact h _ (by rw [hd]; exact hs.put (by simpa using hdn))
/-- Number i alone may come up. -/
theorem dr_one (hs : Slots n m a) (ho : ops[i]? = some o) (hr : Region.ready md ops listed = [i]) (hw : wantB m ops o = some true) (hd : o.dst = some d) (hdn : Nat.blt d n = true) (h1 : Op1 P n m o w R) (hS : ∀ v w', R v w' → S w')
    (h : ∀ v w' a', R v w' → Slots n ((d, v) :: m) a' → wpAnyH P md ops (NP Q) S fuel (listed.setIfInBounds i true) a' w') : wpAnyH P md ops (NP Q) S (fuel + 1) listed a w := by
  refine wpAnyH_all hr (by simp) fun j hj => ?_
  simp only [List.mem_singleton] at hj
  subst hj
  unfold wpOp
  simp only [ho, hs.wants hw, if_true]
  exact .inl (h1 a hs _ _ fun v w' hv => ⟨hS v w' hv, h v w' _ hv (by rw [hd]; exact hs.put (by simpa using hdn))⟩)
theorem dr_oneDo (hs : Slots n m a) (ho : ops[i]? = some o) (hr : Region.ready md ops listed = [i]) (hw : wantB m ops o = some true) (hd : o.dst = none) (h1 : Op1 P n m o w R) (hS : ∀ v w', R v w' → S w')
    (h : ∀ v w' a', R v w' → Slots n m a' → wpAnyH P md ops (NP Q) S fuel (listed.setIfInBounds i true) a' w') : wpAnyH P md ops (NP Q) S (fuel + 1) listed a w := by
  refine wpAnyH_all hr (by simp) fun j hj => ?_
  simp only [List.mem_singleton] at hj
  subst hj
  unfold wpOp
  simp only [ho, hs.wants hw, if_true]
  exact .inl (h1 a hs _ _ fun v w' hv => ⟨hS v w' hv, h v w' _ hv (hs.none hd)⟩)
theorem dr_done (hr : Region.ready md ops listed = []) (h : Q .normal a w) : wpAnyH P md ops (NP Q) S fuel listed a w := wpAnyH_done hr (NoPanic.normal h) fuel

/-! ### Code -/
theorem co_seq {x y : Code} (h : x.wp P (Exit.then (y.wp P Q) Q) a w) : (Code.seq x y).wp P Q a w := wp_seq h
theorem co_reg {id : Nat} {l : List Oper} (h : wpList P l.toArray Q l a w) : (Code.region id l.toArray false).wp P Q a w := wp_region_lit h
theorem co_then {K : Act → World → Prop} (h : K a w) : Exit.then K Q .normal a w := h
theorem co_true {c : Operand} {x y : Code} (hs : Slots n m a) (hc : ev m c = some (.bool true)) (h : x.wp P Q a w) : (Code.cond c x y).wp P Q a w := wp_cond_true (hs.ev hc) h
theorem co_false {c : Operand} {x y : Code} (hs : Slots n m a) (hc : ev m c = some (.bool false)) (h : y.wp P Q a w) : (Code.cond c x y).wp P Q a w := wp_cond_false (hs.ev hc) h
theorem co_loop {c : Code} (I : Nat → Act → World → Prop) (k : Nat) (h₀ : I k a w) (round : ∀ k a w, I k a w → c.wp P (Exit.then (fun a' w' => ∃ k', k' < k ∧ I k' a' w') Q) a w) : (Code.loop c).wp P Q a w := wp_loop_ghost I k h₀ round
theorem co_thenX {K : Act → World → Prop} {i : Nat} (h : Q (.exit i) a w) : Exit.then K Q (.exit i) a w := h
theorem co_thenR {K : Act → World → Prop} (h : Q .ret a w) : Exit.then K Q .ret a w := h
theorem co_blockN {i : Nat} (h : Q .normal a w) : Exit.inBlock i Q .normal a w := h
theorem co_blockX {i : Nat} (h : Q .normal a w) : Exit.inBlock i Q (.exit i) a w := by simpa [Exit.inBlock] using h
theorem co_cut {x y : Code} (M : Act → World → Prop) (h1 : x.wp P (Exit.then M Q) a w) (h2 : ∀ a w, M a w → y.wp P Q a w) : (Code.seq x y).wp P Q a w :=
  wp_seq (Code.wp_mono (fun e a' w' q => by cases e <;> first | exact h2 _ _ q | exact q) h1)
/-- The call begins. -/
theorem co_enter {f : FuncId} {fn : Func} {c : Code} {args : Array Value} {E : Ending → World → Prop} (hf : P.funcs[f]? = some fn) (hb : fn.body = some c) (hn : fn.ntmps = n) (hl : Nat.ble args.size n = true) (m : List (Nat × Value)) (hm : m = args.toList.zipIdx.map fun p => (p.2, p.1))
    (h : ∀ a, Slots n m a → c.wp P (bodyPost P fn E) a w) : Calls P f args w E := by
  have hl := Nat.le_of_ble_eq_true hl
  refine calls_of_wp hf hb (h _ ⟨by simp [hn]; omega, rfl, fun t v ht => ?_⟩)
  subst hm
  have hlk : ∀ (l : List Value) (k t : Nat) v, ((l.zipIdx k).map fun p => (p.2, p.1)).lookup t = some v → k ≤ t ∧ l[t - k]? = some v := by
    intro l
    induction l with
    | nil => intro k t v h; simp at h
    | cons x l ih =>
      intro k t v h
      rw [List.zipIdx_cons, List.map_cons, List.lookup_cons] at h
      by_cases e : t = k
      · subst e; simp at h; subst h; simp
      · have hb : (t == k) = false := by simpa using e
        rw [hb] at h
        obtain ⟨h1, h2⟩ := ih (k + 1) t v h
        refine ⟨by omega, ?_⟩
        rw [show t - k = (t - (k + 1)) + 1 by omega, List.getElem?_cons_succ]; exact h2
  obtain ⟨_, h2⟩ := hlk _ 0 t v ht
  simp only [Nat.sub_zero, Array.getElem?_toList] at h2
  rw [Array.getD_eq_getD_getElem?, Array.getElem?_append_left (Array.getElem?_eq_some_iff.1 h2).1, h2]; rfl
/-- The call ends. -/
theorem co_ret1 {fn : Func} {E : Ending → World → Prop} {t : Nat} {v : Value} (hs : Slots n m a) (hr : fn.results = #[.tmp t]) (ht : m.lookup t = some v) (h : E (.returned v) w) : bodyPost P fn E .ret a w := by
  have := hs.look t v ht
  exact bodyPost_ret (results_tmp hr a.tmps P w) hs.defers (by rw [this]; exact h)
theorem co_ret2 {fn : Func} {E : Ending → World → Prop} {t u : Nat} {v x : Value} (hs : Slots n m a) (hr : fn.results = #[.tmp t, .tmp u]) (ht : m.lookup t = some v) (hu : m.lookup u = some x) (h : E (.returned (.tuple #[v, x])) w) : bodyPost P fn E .ret a w := by
  have h1 := hs.look t v ht
  have h2 := hs.look u x hu
  exact bodyPost_ret (results_tmp2 hr a.tmps P w) hs.defers (by rw [h1, h2]; exact h)
theorem co_ret0n {fn : Func} {E : Ending → World → Prop} (hs : Slots n m a) (hr : fn.results = #[]) (h : E (.returned (.tuple #[])) w) : bodyPost P fn E .normal a w :=
  bodyPost_end (results_none hr a.tmps P w) hs.defers h
end
end Go.Proofs.Ytpcbgkmnjmiigaa

/- Slices that are read, whatever their elements: their cells; a struct that is loaded out of one; an append from one. Conditions: none. -/
namespace Go.Proofs.Ytpcbgkmnjmiigaa
open Go.RowKit

/-- The slice v reads as the list l: each element's cells are what enc says, sz of them. -/
def SliceOf {α : Type} (enc : α → List Value) (sz : Nat) (w : World) (v : Value) (l : List α) : Prop :=
  ∃ ao cap, v = .slice ao l.length cap ∧ l.length ≤ cap ∧ cap ≤ 9223372036854775807 ∧ (ao = none → l.length = 0 ∧ cap = 0) ∧
    ∀ j (h : j < l.length), ∃ b off, ao = some ⟨b, off, none⟩ ∧ w.rangeAt b (off + j * sz) (enc l[j])

theorem SliceOf.below {α : Type} {enc : α → List Value} {sz : Nat} {w w' : World} {v : Value} {l : List α} (h : SliceOf enc sz w v l) (hb : Below w.heap.size w w') : SliceOf enc sz w' v l := by
  obtain ⟨ao, cap, hv, h1, h2, h3, h4⟩ := h
  refine ⟨ao, cap, hv, h1, h2, h3, fun j hj => ?_⟩
  obtain ⟨b, off, e, hr⟩ := h4 j hj
  exact ⟨b, off, e, fun i u hu => cell_below hb (hr i u hu)⟩
theorem SliceOf.nil {α : Type} (enc : α → List Value) (sz : Nat) (w : World) : SliceOf enc sz w (.slice none 0 0) ([] : List α) :=
  ⟨none, 0, rfl, by simp, by omega, fun _ => ⟨rfl, rfl⟩, fun j hj => absurd hj (by simp)⟩
/-- The cells of rows of one size, one behind the other. -/
theorem flat_at {α : Type} {enc : α → List Value} {size : Nat} : ∀ (l : List α) (q r : Nat) (hql : q < l.length), (∀ y ∈ l, (enc y).length = size) → r < size → (l.flatMap enc)[q * size + r]? = (enc l[q])[r]?
  | [], q, r, hql, _, _ => absurd hql (by simp)
  | y :: l, 0, r, _, hy, hr => by
    rw [List.flatMap_cons, Nat.zero_mul, Nat.zero_add, List.getElem?_append_left (by rw [hy y (by simp)]; exact hr)]; rfl
  | y :: l, q + 1, r, hql, hy, hr => by
    rw [List.flatMap_cons, List.getElem?_append_right (by rw [hy y (by simp), Nat.add_mul]; omega), hy y (by simp), show (q + 1) * size + r - size = q * size + r by rw [Nat.add_mul]; omega]
    exact flat_at l q r (by simpa using hql) (fun z hz => hy z (by simp [hz])) hr
theorem flat_len {α : Type} {enc : α → List Value} {size : Nat} : ∀ (l : List α), (∀ y ∈ l, (enc y).length = size) → (l.flatMap enc).length = l.length * size
  | [], _ => by simp
  | y :: l, hy => by rw [List.flatMap_cons, List.length_append, hy y (by simp), flat_len l (fun z hz => hy z (by simp [hz])), List.length_cons, Nat.add_mul]; omega
/-- A row of the call's own. -/
theorem SliceOf.own {α : Type} {enc : α → List Value} {sz : Nat} {w : World} {B : Nat} {e : TypeId} {v : Value} {l : List α} (h : w.ownsRow B e sz v l.length (l.flatMap enc)) (hsz : ∀ x ∈ l, (enc x).length = sz) : SliceOf enc sz w v l := by
  rcases h.2 with ⟨hv, hn⟩ | ⟨g, cap, cur, hv, hg, _, hnc, hcm, _⟩
  · obtain rfl : l = [] := List.eq_nil_of_length_eq_zero hn
    rw [hv]; exact SliceOf.nil _ _ _
  · refine ⟨some ⟨g, 0, none⟩, cap, hv, hnc, by unfold maxLen at hcm; omega, fun h => by (cases h), fun j hj => ⟨g, 0, rfl, fun i u hu => ?_⟩⟩
    have hi : i < sz := by rw [← hsz _ (List.getElem_mem hj)]; exact (List.getElem?_eq_some_iff.1 hu).1
    have hlt : j * sz + i < l.length * sz := by
      have : (j + 1) * sz ≤ l.length * sz := Nat.mul_le_mul_right _ hj
      rw [Nat.add_mul] at this; omega
    have hc := h.cells (g := g) (by rw [hv]; rfl) (j * sz + i) u
    rw [Addr.add_lit] at hc
    rw [Nat.zero_add]; rw [Nat.zero_add] at hc
    exact hc (by rw [flat_at l j i hj hsz hi]; exact hu)

end Go.Proofs.Ytpcbgkmnjmiigaa

/- Steps of a walk over known slots: blocks of the call's own, rows that grow, slices that came in. Conditions: none. -/
namespace Go.Proofs.Ytpcbgkmnjmiigaa
open Go.RowKit

/-- Block N of world w holds just these cells, and may be written. -/
def Blk (w : World) (N : Nat) (T : TypeId) (cs : Array Value) : Prop := w.heap[N]? = some (.cells cs T (0, 0))
section
variable {P : Program} {n : Nat} {m : List (Nat × Value)} {w x : World} {o : Oper} {N : Nat} {T : TypeId} {cs : Array Value}
theorem Blk.lt (h : Blk w N T cs) : N < w.heap.size := (Array.getElem?_eq_some_iff.1 h).1
theorem Blk.cell (h : Blk w N T cs) {k : Nat} {v : Value} (hk : cs[k]? = some v) : w.cell? ⟨N, k, none⟩ = some v := by
  unfold World.cell?; rw [show w.heap[N]? = _ from h]; simpa using hk
theorem Blk.frozen (h : Blk w N T cs) (k : Nat) : w.frozen? ⟨N, k, none⟩ = false := by
  unfold World.frozen?; rw [show w.heap[N]? = _ from h]; simp
theorem Blk.range (h : Blk w N T cs) (k : Nat) (l : List Value) (hl : ∀ j v, l[j]? = some v → cs[k + j]? = some v) : w.rangeAt N k l := fun j v hv => h.cell (hl j v hv)
theorem Blk.all (h : Blk w N T cs) : w.rangeAt N 0 cs.toList := fun j v hv => h.cell (by simpa using hv)
theorem Blk.kept {row : Option Nat} (h : Blk w N T cs) (hg : w.grownBy x row) (hne : row ≠ some N) : Blk x N T cs := by
  unfold Blk at *; rw [hg.block N (Array.getElem?_eq_some_iff.1 h).1 (fun e => hne e.symm)]; exact h
theorem Blk.below (h : Blk w N T cs) (hb : Below w.heap.size w x) : Blk x N T cs := by
  unfold Blk at *; rw [hb.block N (Array.getElem?_eq_some_iff.1 h).1]; exact h
theorem grown_below (hg : w.grownBy x none) : Below w.heap.size w x := ⟨hg.os, hg.tape, hg.output, hg.size, fun k hk => hg.block k hk (by simp)⟩
theorem below_grown (hb : Below w.heap.size w x) : w.grownBy x none := ⟨hb.os, hb.tape, hb.output, hb.size, fun k hk _ => hb.block k hk⟩
theorem hb_new {w0 : World} (h : Below w0.heap.size w0 w) (hg : w.grownBy x none) : Below w0.heap.size w0 x := h.grown hg h.size (fun _ e => by cases e)
theorem hb_at {w0 : World} (h : Below w0.heap.size w0 w) (hg : w.grownBy x (some N)) (hN : w0.heap.size ≤ N) : Below w0.heap.size w0 x := h.grown hg h.size (fun k e => by cases e; exact hN)
theorem hb_call {w0 : World} (h : Below w0.heap.size w0 w) (hb : Below w.heap.size w x) : Below w0.heap.size w0 x := h.trans (hb.mono h.size)
theorem hb_row {w0 : World} {B : Nat} {e : TypeId} {sz k : Nat} {v : Value} {xs : List Value} (h : Below w0.heap.size w0 w) (hr : w.ownsRow B e sz v k xs) (hB : w0.heap.size ≤ B) (hg : w.grownBy x v.ownBlock) : Below w0.heap.size w0 x :=
  h.grown hg h.size (fun k e => by have := (hr.lt k e).1; omega)

theorem row_kept_new {B : Nat} {e : TypeId} {sz k : Nat} {v : Value} {xs : List Value} (h : w.ownsRow B e sz v k xs) (hg : w.grownBy x none) : x.ownsRow B e sz v k xs :=
  h.kept hg (by cases v.ownBlock <;> simp)
theorem row_kept_at {B : Nat} {e : TypeId} {sz k : Nat} {v : Value} {xs : List Value} (h : w.ownsRow B e sz v k xs) (hg : w.grownBy x (some N)) (hne : v.ownBlock ≠ some N) : x.ownsRow B e sz v k xs := h.kept hg (.inr hne)
theorem row_ne_lt {B : Nat} {e : TypeId} {sz k : Nat} {v : Value} {xs : List Value} (h : w.ownsRow B e sz v k xs) (hN : N < B) : v.ownBlock ≠ some N := fun e => by have := (h.lt N e).1; omega
/-- Rows of two types lie apart. -/
theorem row_kept_row {B B' : Nat} {e e' : TypeId} {sz sz' k k' : Nat} {v v' : Value} {xs ys : List Value} (h : w.ownsRow B e sz v k xs) (h' : w.ownsRow B' e' sz' v' k' ys) (hg : w.grownBy x v'.ownBlock) (hne : e ≠ e') : x.ownsRow B e sz v k xs := by
  refine h.kept hg ?_
  cases hv : v.ownBlock with
  | none => exact .inl rfl
  | some g =>
    refine .inr fun e1 => ?_
    rcases h.2 with ⟨rfl, _⟩ | ⟨g1, _, _, rfl, _, hg1, _⟩
    · simp [Value.ownBlock] at hv
    · rcases h'.2 with ⟨rfl, _⟩ | ⟨g2, _, _, rfl, _, hg2, _⟩
      · simp [Value.ownBlock] at e1
      · simp [Value.ownBlock] at hv e1
        subst hv
        rw [← e1, hg1] at hg2
        simp at hg2
        exact hne hg2.2
theorem blk_part (h : Blk w N T cs) (k : Nat) {l : List Value} (hl : (cs.toList.drop k).take l.length = l) : w.rangeAt N k l := fun j v hv => by
  refine h.cell ?_
  have hj := (List.getElem?_eq_some_iff.1 hv).1
  rw [← hl, List.getElem?_take, if_pos hj, List.getElem?_drop] at hv
  simpa using hv
/-- A variable, a struct, an array that is made. -/
theorem op_new {v : Nat → Value} (hok : okOps m o.op = true) (hsel : (match o.op with | .select .. => true | _ => false) = false) (hrun : (execOp (lk m) o).run P w = .ok (.value (v w.heap.size)) (w.alloc (.cells cs T))) :
    Op1 P n m o w (fun u x => ∃ N, u = v N ∧ N = w.heap.size ∧ x.heap.size = N + 1 ∧ Blk x N T cs ∧ w.grownBy x none) :=
  (op_run hok hsel hrun).mono fun u x ⟨h1, h2⟩ => by
    subst h2
    exact ⟨w.heap.size, h1, rfl, by simp, heap_alloc_new w _, World.grownBy_alloc w _ none⟩
theorem setCell_blk (h : Blk w N T cs) (k : Nat) (v : Value) : Blk (w.setCell ⟨N, k, none⟩ v) N T (cs.setIfInBounds k v) := by
  have hlt := (Array.getElem?_eq_some_iff.1 h).1
  have hx := (Array.getElem?_eq_some_iff.1 h).2
  unfold Blk World.setCell
  simp only [Array.getElem?_modify, if_true]
  rw [show w.heap[N]? = _ from h]
  simp
theorem grown_setCell (w : World) (N k : Nat) (v : Value) : w.grownBy (w.setCell ⟨N, k, none⟩ v) (some N) := ⟨rfl, rfl, rfl, by simp [World.setCell], fun j _ hj => Below.heap_setCell w _ v j (fun e => hj (by rw [e]))⟩
/-- A store of one cell into a block of the call's own. -/
theorem op_store1 {t : TypeId} {p q : Operand} {k : Nat} {v : Value} (ho : o.op = .store t p q) (hp : ev m p = some (.pointer (some ⟨N, k, none⟩))) (hq : ev m q = some v) (h1 : v.oneCell' = true) (hs : ∀ w : World, (sizeOf t).run P w = .ok 1 w)
    (hb : Blk w N T cs) (hk : Nat.blt k cs.size = true) : Op1 P n m o w (fun _ x => Blk x N T (cs.setIfInBounds k v) ∧ x.heap.size = w.heap.size ∧ w.grownBy x (some N)) := by
  intro a ha K Q hN
  have hk' : k < cs.size := by simpa using hk
  have hc : w.cell? ⟨N, k, none⟩ = some cs[k] := hb.cell (by simp [hk'])
  have hcell : v.cells = #[v] := by cases v <;> simp_all [Value.cells, Value.oneCell']
  have hrun : (Instr.storeAt t (.pointer (some ⟨N, k, none⟩)) v).run P w = .ok () (w.setCell ⟨N, k, none⟩ v) := by
    have h2 := run_storeCells_cells (P := P) N k [v] 0 w (fun j hj => by simp at hj; subst hj; simp [hc]) (fun j hj => by simpa using hb.frozen _) (by simpa using h1)
    simp only [Nat.add_zero] at h2
    simp [Instr.storeAt, Instr.sureAddr, storeVar, hcell, hs, Sem.run_bind, h2, World.setCells]
  unfold Oper.wp execOp
  simp only [ho, ha.ev hp, ha.ev hq, Sem.run_bind, hrun, Result.andThen_ok, Sem.run_pure]
  exact hN _ _ ⟨setCell_blk hb k v, by simp [World.setCell], grown_setCell w N k v⟩
theorem setCells_blk : ∀ (vs : List Value) (w : World) (cs : Array Value) (k : Nat), Blk w N T cs → k + vs.length ≤ cs.size → Blk (w.setCells N k vs) N T (cs.toList.take k ++ vs ++ cs.toList.drop (k + vs.length)).toArray
  | [], w, cs, k, h, _ => by simpa [World.setCells] using h
  | v :: r, w, cs, k, h, hl => by
    simp only [List.length_cons] at hl
    have := setCells_blk r (w.setCell ⟨N, k, none⟩ v) (cs.setIfInBounds k v) (k + 1) (setCell_blk h k v) (by simp; omega)
    rw [World.setCells]
    have e : ((cs.setIfInBounds k v).toList.take (k + 1) ++ r ++ (cs.setIfInBounds k v).toList.drop (k + 1 + r.length)) = cs.toList.take k ++ (v :: r) ++ cs.toList.drop (k + (r.length + 1)) := by
      simp only [Array.toList_setIfInBounds]
      rw [List.take_set, List.drop_set_of_lt (by omega), show k + 1 + r.length = k + (r.length + 1) by omega]
      have : (List.take (k + 1) cs.toList).set k v = cs.toList.take k ++ [v] := by
        rw [List.take_succ_eq_append_getElem (by simp; omega)]
        have hl : (List.take k cs.toList).length = k := by simp; omega
        rw [List.set_append, hl, if_neg (by omega)]
        simp
      rw [this]; simp
    rw [List.length_cons, ← e]; exact this
/-- A store of a whole value into a block of the call's own. -/
theorem op_storeN {t : TypeId} {p q : Operand} {cells : Array Value} (ho : o.op = .store t p q) (hp : ev m p = some (.pointer (some ⟨N, 0, none⟩))) (hq : ev m q = some (.agg cells)) (h1 : cells.all (·.oneCell') = true) (hi : (P.info? t).map (·.size) = some cells.size)
    (hb : Blk w N T cs) (hk : cs.size = cells.size) : Op1 P n m o w (fun _ x => Blk x N T cells ∧ x.heap.size = w.heap.size ∧ w.grownBy x (some N)) := by
  intro a ha K Q hN
  have hthere : w.there N 0 cells.size := fun j hj => ⟨by rw [hb.cell (k := 0 + j) (v := cs[j]) (by simp [hk, hj])]; rfl, hb.frozen _⟩
  refine wp_store_mid t p q ho N 0 cells (ha.ev hp) (ha.ev hq) hthere hi h1 (hN _ _ ⟨?_, ?_, ?_⟩)
  · have := setCells_blk cells.toList w cs 0 hb (by simp [hk])
    have e : (cells.toList ++ List.drop cells.size cs.toList).toArray = cells := by rw [List.drop_eq_nil_of_le (by simp [hk])]; simp
    simp only [List.take_zero, List.nil_append, Nat.zero_add, Array.length_toList, e] at this
    exact this
  · have hsz : ∀ (vs : List Value) (k : Nat) (w : World), (w.setCells N k vs).heap.size = w.heap.size := by
      intro vs
      induction vs with
      | nil => intro k w; rfl
      | cons v r ih => intro k w; rw [World.setCells, ih]; simp [World.setCell]
    exact hsz _ _ _
  · have hg : ∀ (vs : List Value) (k : Nat) (w : World), w.grownBy (w.setCells N k vs) (some N) := by
      intro vs
      induction vs with
      | nil => intro k w; exact World.grownBy.refl _ _
      | cons v r ih => intro k w; rw [World.setCells]; exact (grown_setCell w N k v).trans (ih _ _)
    exact hg _ _ _
/-! ### A region that draws its order begins -/
section
variable {Q : Exit → Act → World → Prop} {a : Act}
theorem drew_grown (w : World) : w.grownBy w.drew none := ⟨rfl, rfl, rfl, Nat.le_refl _, fun _ _ _ => rfl⟩
theorem dr_eq {id : Nat} {l : List Oper} (hm : P.follows .mixedOrders = true) (h : ∀ wd, w.grownBy wd none → wpAnyH P .any l.toArray (NP Q) (fun x => x = wd) l.length (Array.replicate l.length false) a wd) : (Code.region id l.toArray true).wp P Q a w :=
  dr_start (S := fun x => x = w.drew) hm rfl (h _ (drew_grown w))
theorem dr_gen {id : Nat} {l : List Oper} (S : World → Prop) (hm : P.follows .mixedOrders = true) (hS : ∀ wd, w.grownBy wd none → S wd) (h : ∀ wd, w.grownBy wd none → wpAnyH P .any l.toArray (NP Q) S l.length (Array.replicate l.length false) a wd) : (Code.region id l.toArray true).wp P Q a w :=
  dr_start hm (hS _ (drew_grown w)) (h _ (drew_grown w))
end

/-! ### Slices that came in: the value is whatever it is, its place is told by two functions -/
def blkOf : Value → Nat
  | .slice (some a) _ _ => a.block
  | _ => 0
def offOf : Value → Nat
  | .slice (some a) _ _ => a.off
  | _ => 0
variable {α : Type} {enc : α → List Value} {sz : Nat} {v : Value} {l : List α}
theorem sl_len (h : SliceOf enc sz w v l) : l.length ≤ 9223372036854775807 := by obtain ⟨_, _, _, h1, h2, _⟩ := h; omega
theorem sl_at (h : SliceOf enc sz w v l) {i : Nat} {y : α} (hy : l[i]? = some y) : w.rangeAt (blkOf v) (offOf v + i * sz) (enc y) := by
  obtain ⟨ao, cap, rfl, _, _, _, hc⟩ := h
  obtain ⟨hi, e⟩ := List.getElem?_eq_some_iff.1 hy
  obtain ⟨b, off, rfl, hr⟩ := hc i hi
  rw [← e]; exact hr
/-- 'len(v)' -/
theorem rn_len {t : TypeId} {q : Operand} (ho : o.op = .call { callee := .builtin .len, args := #[q], argTypes := #[t] }) (hq : ev m q = some v) {e : TypeId} (ht : P.underlying t = some (.slice e)) (h : SliceOf enc sz w v l) : (execOp (lk m) o).run P w = .ok (.value (.int .i64 (l.length : Nat))) w := by
  obtain ⟨ao, cap, rfl, _, _, _, hc⟩ := h
  unfold execOp
  simp [ho, resolve, invoke, builtin, Sem.run_bind, lk_ev hq, Builtin.len_, goInt, run_underlying ht]
theorem rn_lenOwn {t : TypeId} {q : Operand} {base : Nat} {e : TypeId} {k : Nat} {xs : List Value} (ho : o.op = .call { callee := .builtin .len, args := #[q], argTypes := #[t] }) (hq : ev m q = some v) {e' : TypeId} (ht : P.underlying t = some (.slice e')) (h : w.ownsRow base e sz v k xs) : (execOp (lk m) o).run P w = .ok (.value (.int .i64 (k : Nat))) w := by
  rcases h.2 with ⟨rfl, rfl⟩ | ⟨g, cap, cur, rfl, _⟩
  · unfold execOp
    simp [ho, resolve, invoke, builtin, Sem.run_bind, lk_ev hq, Builtin.len_, goInt, run_underlying ht]
  · unfold execOp
    simp [ho, resolve, invoke, builtin, Sem.run_bind, lk_ev hq, Builtin.len_, goInt, run_underlying ht]
theorem rn_lenStr {t : TypeId} {q : Operand} {s : ByteArray} (ho : o.op = .call { callee := .builtin .len, args := #[q], argTypes := #[t] }) (hq : ev m q = some (.string s)) (ht : P.underlying t = some .string) : (execOp (lk m) o).run P w = .ok (.value (.int .i64 (s.size : Nat))) w := by
  unfold execOp
  simp [ho, resolve, invoke, builtin, Sem.run_bind, lk_ev hq, Builtin.len_, goInt, run_underlying ht]
/-- 'v[i]' as an address -/
theorem rn_index {t e : TypeId} {q r : Operand} {k : IntKind} {i : Int} {j : Nat} (ho : o.op = .indexAddr t q r) (hq : ev m q = some v) (hr : ev m r = some (.int k i)) (ht : P.underlying t = some (.slice e)) (hs : ∀ w : World, (sizeOf e).run P w = .ok sz w)
    (h : SliceOf enc sz w v l) (hij : i = (j : Nat)) (hj : j < l.length) : (execOp (lk m) o).run P w = .ok (.value (.pointer (some ⟨blkOf v, offOf v + j * sz, none⟩))) w := by
  subst hij
  obtain ⟨ao, cap, rfl, _, _, _, hc⟩ := h
  obtain ⟨b, off, rfl, _⟩ := hc j hj
  have hrun : (Instr.indexAt t (.slice (some ⟨b, off, none⟩) l.length cap) (.int k j)).run P w = .ok (.pointer (some ⟨b, off + j * sz, none⟩)) w := by
    have h0 : (0 : Int) ≤ (j : Nat) ∧ ((j : Nat) : Int) < (l.length : Nat) := by omega
    simp [Instr.indexAt, asIntOf, run_underlying ht, Sem.run_bind, h0, hs, hj, Addr.add_lit]
  unfold execOp
  simp only [ho, lk_ev hq, lk_ev hr, Sem.run_bind, hrun, Result.andThen_ok, Sem.run_pure]
  rfl
end
end Go.Proofs.Ytpcbgkmnjmiigaa

/- Slices that are cut, and appended from. Conditions: none. -/
namespace Go.Proofs.Ytpcbgkmnjmiigaa
open Go.RowKit Go.PlainAid

theorem SliceOf.sliced {α : Type} {enc : α → List Value} {sz : Nat} {w : World} {ao : Option Addr} {n cap : Nat} {l : List α} (h : SliceOf enc sz w (.slice ao n cap) l) (lo hi : Nat) (h1 : lo ≤ hi) (h2 : hi ≤ l.length) :
    SliceOf enc sz w (sliced ao lo hi cap sz) ((l.take hi).drop lo) := by
  obtain ⟨ao', cap', hv, h1', h2', h3, h4⟩ := h
  injection hv with e1 e2 e3
  subst e1 e2 e3
  have hl : ((l.take hi).drop lo).length = hi - lo := by rw [List.length_drop, List.length_take]; omega
  unfold Go.sliced
  cases ao with
  | none =>
    obtain ⟨e0, e1⟩ := h3 rfl
    subst e1
    have : hi = 0 := by omega
    have : lo = 0 := by omega
    subst lo hi
    exact ⟨none, 0, by simp, by simp, by omega, fun _ => ⟨by simp, rfl⟩, fun j hj => absurd hj (by simp)⟩
  | some a =>
    by_cases hc : cap = lo
    · subst hc
      have : hi = cap := by omega
      subst this
      refine ⟨some a, 0, by rw [hl]; simp, by rw [hl]; omega, by omega, fun h => (by cases h), fun j hj => absurd hj (by rw [hl]; omega)⟩
    · refine ⟨some (a.add (lo * sz)), cap - lo, by rw [hl, if_neg hc]; rfl, by rw [hl]; omega, by omega, fun h => (by cases h), fun j hj => ?_⟩
      rw [hl] at hj
      obtain ⟨b, off, e, hr⟩ := h4 (lo + j) (by omega)
      cases e
      refine ⟨b, off + lo * sz, by rw [Addr.add_lit], ?_⟩
      rw [show off + lo * sz + j * sz = off + (lo + j) * sz by rw [Nat.add_mul]; omega, List.getElem_drop, List.getElem_take]
      exact hr
theorem wp_append_src {P : Program} {w : World} {o : Oper} {a : Act} {K : Act → World → Prop} {Q : Exit → Act → World → Prop} (s x : Operand) (t : TypeId)
    (ho : o.op = .call { callee := .builtin .append, args := #[s, x], argTypes := #[t, t] })
    (base : Nat) (e : TypeId) (i : TypeInfo) (z : Value) (size bytes : Nat) (ht : P.underlying t = some (.slice e)) (hi : P.info? e = some i) (hz : i.zero = some z)
    (hsize : i.size = size) (hby : i.bytes = bytes) (hzs : z.cells.size = size) (hsz : 0 < size)
    (v : Value) (n : Nat) (xs : List Value) (hs : a.eval s = v) (hown : w.ownsRow base e size v n xs)
    {α : Type} (enc : α → List Value) (l : List α) (vs : Value) (hx : a.eval x = vs) (hsl : SliceOf enc size w vs l) (hen : ∀ y ∈ l, (enc y).length = size ∧ ∀ u ∈ enc y, u.oneCell' = true)
    (h63 : n + l.length ≤ maxLen) (hbytes : (n + l.length) * bytes ≤ 140737488355328) (hbase : base ≤ w.heap.size)
    (h : ∀ v' w', w'.ownsRow base e size v' (n + l.length) (xs ++ l.flatMap enc) → w.grownBy w' v.ownBlock → K (a.put o.dst v') w') : o.wp P a w K Q := by
  obtain ⟨ao, cap, rfl, _, _, hnil, hcell⟩ := hsl
  have hl := flat_len l (fun y hy => (hen y hy).1)
  cases ao with
  | none =>
    obtain ⟨e0, e1⟩ := hnil rfl
    obtain rfl : l = [] := List.eq_nil_of_length_eq_zero e0
    subst e1
    have hrun := run_append_owned_none (P := P) (w := w) base t o.type e i size ht hi v n xs hown
    have hx' : a.eval x = .slice none 0 0 := by simpa using hx
    unfold Oper.wp
    simp [execOp, ho, resolve, invoke, builtin, hs, hx', hrun, Result.andThen]
    exact h v w (by simpa using hown) (World.grownBy.refl _ _)
  | some ad =>
    refine wp_append_own _ s x t ho base e i z size bytes ht hi hz hsize hby hzs hsz v n xs hs hown ad l.length cap (l.flatMap enc) hx hl ?_ ?_ h63 hbytes hbase (fun v' w' h1 h2 _ => h v' w' h1 h2)
    · intro j u hu
      have hj : j < l.length * size := by rw [← hl]; exact (List.getElem?_eq_some_iff.1 hu).1
      have hq : j / size < l.length := Nat.div_lt_of_lt_mul (by rw [Nat.mul_comm]; exact hj)
      obtain ⟨b, off, hb, hr⟩ := hcell _ hq
      cases hb
      rw [Addr.add_lit]
      have hdm : j / size * size + j % size = j := by rw [Nat.mul_comm]; exact Nat.div_add_mod j size
      have hr' := hr (j % size) u
      rw [Nat.add_assoc, hdm] at hr'
      refine hr' ?_
      rw [← flat_at l (j / size) (j % size) hq (fun y hy => (hen y hy).1) (Nat.mod_lt _ hsz), hdm]; exact hu
    · intro u hu
      obtain ⟨y, hy, huy⟩ := List.mem_flatMap.1 hu
      exact (hen y hy).2 u huy
end Go.Proofs.Ytpcbgkmnjmiigaa

/- Steps of a walk over known slots: slices cut, appended from, rows as lists, closures, structs compared. Conditions: none. -/
namespace Go.Proofs.Ytpcbgkmnjmiigaa
open Go.RowKit

section
variable {P : Program} {n : Nat} {m : List (Nat × Value)} {w x : World} {o : Oper} {N : Nat} {T : TypeId} {cs : Array Value} {α : Type} {enc : α → List Value} {sz : Nat} {v : Value} {l : List α}

/-- A slice of a slice. -/
def subV (v : Value) (lo hi sz : Nat) : Value :=
  match v with
  | .slice ao _ cap => sliced ao lo hi cap sz
  | x => x
theorem sl_sub (h : SliceOf enc sz w v l) (lo hi : Nat) (h1 : lo ≤ hi) (h2 : hi ≤ l.length) : SliceOf enc sz w (subV v lo hi sz) ((l.take hi).drop lo) := by
  obtain ⟨ao, cap, rfl, h3, h4, h5, h6⟩ := h
  exact SliceOf.sliced ⟨ao, cap, rfl, h3, h4, h5, h6⟩ lo hi h1 h2
theorem sl_drop (h : SliceOf enc sz w v l) (k : Nat) (h2 : k ≤ l.length) : SliceOf enc sz w (subV v k l.length sz) (l.drop k) := by
  have := sl_sub h k l.length h2 (Nat.le_refl _); rwa [List.take_length] at this
theorem rn_sliceFrom {t e : TypeId} {q r : Operand} {k : IntKind} {i : Int} {j : Nat} (ho : o.op = .slice t q (some r) none none) (hq : ev m q = some v) (hr : ev m r = some (.int k i)) (ht : P.underlying t = some (.slice e)) (hs : ∀ w : World, (sizeOf e).run P w = .ok sz w)
    (h : SliceOf enc sz w v l) (hij : i = (j : Nat)) (hj : j ≤ l.length) : (execOp (lk m) o).run P w = .ok (.value (subV v j l.length sz)) w := by
  subst hij
  obtain ⟨ao, cap, rfl, h3, h4, h5, h6⟩ := h
  have he : P.elem t = e := by simp [Program.elem, ht]
  have hrun : (Instr.slice t (.slice ao l.length cap) (some (.int k j)) none none).run P w = .ok (sliced ao j l.length cap sz) w := by
    rw [run_slice_l w t ao l.length cap (by rw [he]; exact ht) k j (by omega) (by omega), he, hs]; rfl
  unfold execOp
  simp only [ho, Option.map_some, Option.map_none, lk_ev hq, lk_ev hr, Instr.sliceAt, Sem.run_bind, run_underlying ht, Result.andThen_ok, hrun, Sem.run_pure]
  rfl
/-- 'append(v, src..)', v a row of the call's own, src any slice that is read. -/
theorem op_appendSrc {s q : Operand} {t : TypeId} (ho : o.op = .call { callee := .builtin .append, args := #[s, q], argTypes := #[t, t] })
    (base : Nat) (e : TypeId) {z : Value} {size bytes : Nat} (ht : P.underlying t = some (.slice e)) (hi : (P.info? e).map (fun i => (i.zero, i.size, i.bytes)) = some (some z, size, bytes))
    (hzs : z.cells.size = size) (hsz : Nat.blt 0 size = true) {u : Value} {k : Nat} {xs : List Value} (hs : ev m s = some u) (hown : w.ownsRow base e size u k xs)
    (hx : ev m q = some v) (hsl : SliceOf enc size w v l) (hen : ∀ y ∈ l, (enc y).length = size ∧ ∀ u ∈ enc y, u.oneCell' = true)
    (h63 : k + l.length ≤ 9223372036854775807) (hbytes : (k + l.length) * bytes ≤ 140737488355328) (hbase : base ≤ w.heap.size) :
    Op1 P n m o w (fun r x => x.ownsRow base e size r (k + l.length) (xs ++ l.flatMap enc) ∧ w.grownBy x u.ownBlock) := by
  intro a ha K Q hN
  obtain ⟨i0, hii, hz0, hz1, hz2⟩ := info_parts hi
  exact wp_append_src s q t ho base e i0 z size bytes ht hii hz0 hz1 hz2 hzs (by simpa using hsz) u k xs (ha.ev hs) hown enc l v (ha.ev hx) hsl hen (by unfold maxLen; exact h63) hbytes hbase (fun v' w' h2 h3 => hN _ _ ⟨h2, h3⟩)
theorem row_nilL (w : World) (base : Nat) (T : TypeId) (sz : Nat) (enc : α → List Value) : w.ownsRow base T sz (.slice none 0 0) ([] : List α).length (([] : List α).flatMap enc) := World.ownsRow_nil _ _ _ _
theorem row_push {base : Nat} {u : Value} {y : α} {k : Nat} {xs : List Value} (h : w.ownsRow base T sz u (l.length + k) (l.flatMap enc ++ xs)) (hk : k = 1) (he : enc y = xs) : w.ownsRow base T sz u (l ++ [y]).length ((l ++ [y]).flatMap enc) := by
  subst hk he; simpa using h
theorem row_app {base : Nat} {u : Value} {l' : List α} (h : w.ownsRow base T sz u (l.length + l'.length) (l.flatMap enc ++ l'.flatMap enc)) : w.ownsRow base T sz u (l ++ l').length ((l ++ l').flatMap enc) := by
  simpa using h
theorem row_lows {base base' : Nat} {u : Value} {k : Nat} {xs : List Value} (h : w.ownsRow base T sz u k xs) (hb : base' ≤ base) : w.ownsRow base' T sz u k xs := by
  refine ⟨h.1, ?_⟩
  rcases h.2 with h2 | ⟨g, c, r, e, hg, h3⟩
  · exact .inl h2
  · exact .inr ⟨g, c, r, e, by omega, h3⟩
theorem row_eq {base : Nat} {u : Value} {l' : List α} (h : w.ownsRow base T sz u l.length (l.flatMap enc)) (e : l = l') : w.ownsRow base T sz u l'.length (l'.flatMap enc) := by subst e; exact h
theorem row_sl {base : Nat} (h : w.ownsRow base T sz v l.length (l.flatMap enc)) (hsz : ∀ y : α, (enc y).length = sz) : SliceOf enc sz w v l := SliceOf.own h (fun y _ => hsz y)
theorem row_fresh {base : Nat} {k : Nat} {xs : List Value} (h : w.ownsRow base T sz v k xs) (hN : N = w.heap.size) : v.ownBlock ≠ some N := fun e => by have := (h.lt N e).2; omega
theorem rn_rem {T T' : TypeId} {q r : Operand} {k : IntKind} {i j : Int} (ho : o.op = .binOp .rem T q r T') (hq : ev m q = some (.int k i)) (hr : ev m r = some (.int k j)) (hi : 0 ≤ i) (hj : 0 < j) : (execOp (lk m) o).run P w = .ok (.value (.int k (i % j))) w := by
  unfold execOp
  have hne : ¬ j = 0 := by omega
  have he : i.tmod j = i % j := Int.tmod_eq_emod_of_nonneg hi
  simp only [ho, lk_ev hq, lk_ev hr]
  simp [eqGuard, binOp, Op.intDiv, hne, he]
/-- A struct and a slot as results. -/
theorem co_retC1 {Q : Exit → Act → World → Prop} {a : Act} {fn : Func} {E : Ending → World → Prop} {t u : Nat} {T' : TypeId} {y : Value} {d : TypeDesc} (hs : Slots n m a) (hr : fn.results = #[.cell t T', .tmp u]) (ht : m.lookup t = some (.pointer (some ⟨N, 0, none⟩))) (hu : m.lookup u = some y) (hb : Blk w N T cs)
    (hd : P.underlying T' = some d) (hrow : d.isRow = true) (hi : (P.info? T').map (·.size) = some cs.size) (h : E (.returned (.tuple #[.agg cs, y])) w) : bodyPost P fn E .ret a w := by
  have h1 := hs.look t _ ht
  have h2 := hs.look u _ hu
  have hl := run_loadVar_mid w N 0 T' cs.toList d hb.all hd hrow (by simpa using hi)
  have hrun : (results fn a.tmps).run P w = .ok (.tuple #[.agg cs, y]) w := by
    have h1' : (a.tmps[t]?).getD undef = .pointer (some ⟨N, 0, none⟩) := by rw [← h1, Array.getD_eq_getD_getElem?]
    have h2' : (a.tmps[u]?).getD undef = y := by rw [← h2, Array.getD_eq_getD_getElem?]
    simp [results, hr, h1', h2', asAddr, hl, Sem.run_bind]
  exact bodyPost_ret hrun hs.defers h
/-- A struct as the result. -/
theorem co_retC {Q : Exit → Act → World → Prop} {a : Act} {fn : Func} {E : Ending → World → Prop} {t : Nat} {T' : TypeId} {d : TypeDesc} (hs : Slots n m a) (hr : fn.results = #[.cell t T']) (ht : m.lookup t = some (.pointer (some ⟨N, 0, none⟩))) (hb : Blk w N T cs)
    (hd : P.underlying T' = some d) (hrow : d.isRow = true) (hi : (P.info? T').map (·.size) = some cs.size) (h : E (.returned (.agg cs)) w) : bodyPost P fn E .ret a w := by
  have h1 := hs.look t _ ht
  have hl := run_loadVar_mid w N 0 T' cs.toList d hb.all hd hrow (by simpa using hi)
  have hrun : (results fn a.tmps).run P w = .ok (.agg cs) w := by
    have h1' : (a.tmps[t]?).getD undef = .pointer (some ⟨N, 0, none⟩) := by rw [← h1, Array.getD_eq_getD_getElem?]
    simp [results, hr, h1', asAddr, hl, Sem.run_bind]
  exact bodyPost_ret hrun hs.defers h
end
end Go.Proofs.Ytpcbgkmnjmiigaa

/- Drawn regions in which several operations may come up: each way for itself. Conditions: none. -/
namespace Go.Proofs.Ytpcbgkmnjmiigaa
open Go.RowKit

section
variable {P : Program} {n : Nat} {m : List (Nat × Value)} {w : World} {o : Oper} {ops : Array Oper} {Q : Exit → Act → World → Prop} {R : Value → World → Prop} {md : Region.Mode} {S : World → Prop} {fuel i d : Nat} {listed : Array Bool} {a : Act}
def AllW (P : Program) (md : Region.Mode) (ops : Array Oper) (Q : Exit → Act → World → Prop) (S : World → Prop) (fuel : Nat) (listed : Array Bool) (a : Act) (w : World) : List Nat → Prop
  | [] => True
  | i :: r => wpOp P ops (NP Q) i (fun a' w' => S w' ∧ wpAnyH P md ops (NP Q) S fuel (listed.setIfInBounds i true) a' w') a w ∧ AllW P md ops Q S fuel listed a w r
theorem AllW.all : ∀ (rs : List Nat), AllW P md ops Q S fuel listed a w rs → ∀ i ∈ rs, wpOp P ops (NP Q) i (fun a' w' => S w' ∧ wpAnyH P md ops (NP Q) S fuel (listed.setIfInBounds i true) a' w') a w
  | [], _, _, h => by cases h
  | i :: r, h, j, hj => by
    rcases List.mem_cons.1 hj with rfl | hj
    · exact h.1
    · exact AllW.all r h.2 j hj
/-- Several may come up. -/
theorem dr_many (rs : List Nat) (hr : Region.ready md ops listed = rs) (hne : rs ≠ []) (h : AllW P md ops Q S fuel listed a w rs) : wpAnyH P md ops (NP Q) S (fuel + 1) listed a w := wpAnyH_all hr hne (AllW.all rs h)
theorem dr_op (hs : Slots n m a) (ho : ops[i]? = some o) (hw : wantB m ops o = some true) (hd : o.dst = some d) (hdn : Nat.blt d n = true) (h1 : Op1 P n m o w R) (hS : ∀ v w', R v w' → S w')
    (h : ∀ v w' a', R v w' → Slots n ((d, v) :: m) a' → wpAnyH P md ops (NP Q) S fuel (listed.setIfInBounds i true) a' w') : wpOp P ops (NP Q) i (fun a' w' => S w' ∧ wpAnyH P md ops (NP Q) S fuel (listed.setIfInBounds i true) a' w') a w := by
  unfold wpOp
  simp only [ho, hs.wants hw, if_true]
  exact .inl (h1 a hs _ _ fun v w' hv => ⟨hS v w' hv, h v w' _ hv (by rw [hd]; exact hs.put (by simpa using hdn))⟩)
/-- One that yields v and leaves the world as it is. -/
theorem dr_opVal {v : Value} (hs : Slots n m a) (ho : ops[i]? = some o) (hw : wantB m ops o = some true) (hd : o.dst = some d) (hdn : Nat.blt d n = true) (hok : okOps m o.op = true) (hsel : (match o.op with | .select .. => true | _ => false) = false) (hrun : (execOp (lk m) o).run P w = .ok (.value v) w) (hS : S w)
    (h : ∀ a', Slots n ((d, v) :: m) a' → wpAnyH P md ops (NP Q) S fuel (listed.setIfInBounds i true) a' w) : wpOp P ops (NP Q) i (fun a' w' => S w' ∧ wpAnyH P md ops (NP Q) S fuel (listed.setIfInBounds i true) a' w') a w :=
  dr_op hs ho hw hd hdn (op_run hok hsel hrun) (fun _ _ ⟨_, h2⟩ => by subst h2; exact hS) (fun _ _ a' ⟨h1, h2⟩ hs' => by subst h1 h2; exact h a' hs')
end
theorem row_one {w : World} {B sz k : Nat} {T : TypeId} {v : Value} {xs : List Value} (h : w.ownsRow B T sz v k xs) : v.oneCell' = true := by
  rcases h.2 with ⟨rfl, _⟩ | ⟨g, cap, cur, rfl, _⟩ <;> rfl
theorem all_nil : ([] : List Value).toArray.all (·.oneCell') = true := by simp
theorem all_cons {u : Value} {l : List Value} (h : u.oneCell' = true) (hl : l.toArray.all (·.oneCell') = true) : (u :: l).toArray.all (·.oneCell') = true := by
  simp only [List.all_toArray, List.all_cons, Bool.and_eq_true] at hl ⊢
  exact ⟨h, hl⟩
/-- A block of known cells, as a row of its own. -/
theorem row_of_cells {α : Type} {enc : α → List Value} {sz base N : Nat} {w : World} {T : TypeId} {cs : Array Value} (l : List α) (h : Blk w N T cs) (hb : base ≤ N) (hl : cs.toList = l.flatMap enc) (hs : cs.size = l.length * sz) (hm : l.length ≤ maxLen) :
    w.ownsRow base T sz (.slice (some ⟨N, 0, none⟩) l.length l.length) l.length (l.flatMap enc) := by
  have hcs : cs.toList.length = l.length * sz := by simpa using hs
  refine ⟨by rw [← hl, hcs], .inr ⟨N, l.length, cs, rfl, hb, h, Nat.le_refl _, hm, hs, ?_⟩⟩
  rw [← hl, List.take_of_length_le (by omega)]
/-- A pointer. -/
abbrev pt (b o : Nat) : Value := .pointer (some ⟨b, o, none⟩)
/-! ### Short forms: what follows by computing alone stands behind. -/
section
variable {P : Program} {n : Nat} {m : List (Nat × Value)} {w : World} {o : Oper} {ops : Array Oper} {rest : List Oper} {Q : Exit → Act → World → Prop} {R : Value → World → Prop} {md : Region.Mode} {S : World → Prop} {fuel d : Nat} {listed : Array Bool} {a : Act} {v : Value}
theorem pk (hs : Slots n m a) (hd : o.dst = some d) (hrun : (execOp (lk m) o).run P w = .ok (.value v) w) (h : ∀ a', Slots n ((d, v) :: m) a' → wpList P ops Q rest a' w)
    (hg : wantB m ops o = some true := by rfl) (hdn : Nat.blt d n = true := by rfl) (hok : okOps m o.op = true := by kernel_rfl) (hsel : (match o.op with | .select .. => true | _ => false) = false := by kernel_rfl) : wpList P ops Q (o :: rest) a w := pl_val hs hg hd hdn hok hsel hrun h
theorem pk0 (hs : Slots n m a) (hd : o.dst = some d) (h : ∀ a', Slots n ((d, v) :: m) a' → wpList P ops Q rest a' w)
    (hg : wantB m ops o = some true := by rfl) (hdn : Nat.blt d n = true := by rfl) (hok : okOps m o.op = true := by kernel_rfl) (hsel : (match o.op with | .select .. => true | _ => false) = false := by kernel_rfl) (hrun : (execOp (lk m) o).run P w = .ok (.value v) w := by kernel_rfl) : wpList P ops Q (o :: rest) a w := pl_val hs hg hd hdn hok hsel hrun h
theorem pw (hs : Slots n m a) (hd : o.dst = some d) (h1 : Op1 P n m o w R) (h : ∀ v w' a', R v w' → Slots n ((d, v) :: m) a' → wpList P ops Q rest a' w') (hg : wantB m ops o = some true := by rfl) (hdn : Nat.blt d n = true := by rfl) : wpList P ops Q (o :: rest) a w := pl_want hs hg hd hdn h1 h
theorem pwD (hs : Slots n m a) (hd : o.dst = none) (h1 : Op1 P n m o w R) (h : ∀ v w' a', R v w' → Slots n m a' → wpList P ops Q rest a' w') (hg : wantB m ops o = some true := by rfl) : wpList P ops Q (o :: rest) a w := pl_doW hs hg hd h1 h
theorem psk (hs : Slots n m a) (hd : o.dst = some d) (h : ∀ a', Slots n ((d, undef) :: m) a' → wpList P ops Q rest a' w) (hg : wantB m ops o = some false := by rfl) (hdn : Nat.blt d n = true := by rfl) : wpList P ops Q (o :: rest) a w := pl_skip hs hg hd hdn h
theorem dk (i : Nat) (hs : Slots n m a) (ho : ops[i]? = some o) (hd : o.dst = some d) (hS : S w) (hrun : ∀ w, S w → (execOp (lk m) o).run P w = .ok (.value v) w) (h : ∀ a', Slots n ((d, v) :: m) a' → wpAnyH P md ops (NP Q) S fuel (listed.setIfInBounds i true) a' w)
    (hsel : Region.noSelect ops = true := by kernel_rfl) (hf : Region.free md ops listed i = true := by kernel_rfl) (hr : (Region.ready md ops listed).contains i = true := by kernel_rfl) (hw : wantB m ops o = some true := by rfl) (hdn : Nat.blt d n = true := by rfl) (hok : okOps m o.op = true := by kernel_rfl) : wpAnyH P md ops (NP Q) S (fuel + 1) listed a w := dr_take hs ho hsel hf hr hw hd hdn hS hok hrun h
theorem dk0 (i : Nat) (hs : Slots n m a) (ho : ops[i]? = some o) (hd : o.dst = some d) (hS : S w) (h : ∀ a', Slots n ((d, v) :: m) a' → wpAnyH P md ops (NP Q) S fuel (listed.setIfInBounds i true) a' w)
    (hsel : Region.noSelect ops = true := by kernel_rfl) (hf : Region.free md ops listed i = true := by kernel_rfl) (hr : (Region.ready md ops listed).contains i = true := by kernel_rfl) (hw : wantB m ops o = some true := by rfl) (hdn : Nat.blt d n = true := by rfl) (hok : okOps m o.op = true := by kernel_rfl) (hrun : ∀ w, S w → (execOp (lk m) o).run P w = .ok (.value v) w := by intro _ _; kernel_rfl) : wpAnyH P md ops (NP Q) S (fuel + 1) listed a w := dr_take hs ho hsel hf hr hw hd hdn hS hok hrun h
theorem dsk (i : Nat) (hs : Slots n m a) (ho : ops[i]? = some o) (hd : o.dst = some d) (hS : S w) (h : ∀ a', Slots n ((d, undef) :: m) a' → wpAnyH P md ops (NP Q) S fuel (listed.setIfInBounds i true) a' w)
    (hsel : Region.noSelect ops = true := by kernel_rfl) (hf : Region.free md ops listed i = true := by kernel_rfl) (hr : (Region.ready md ops listed).contains i = true := by kernel_rfl) (hw : wantB m ops o = some false := by rfl) (hdn : Nat.blt d n = true := by rfl) : wpAnyH P md ops (NP Q) S (fuel + 1) listed a w := dr_skip hs ho hsel hf hr hw hd hdn hS h
theorem d1 (i : Nat) (hs : Slots n m a) (ho : ops[i]? = some o) (hd : o.dst = some d) (h1 : Op1 P n m o w R) (hS : ∀ v w', R v w' → S w') (h : ∀ v w' a', R v w' → Slots n ((d, v) :: m) a' → wpAnyH P md ops (NP Q) S fuel (listed.setIfInBounds i true) a' w')
    (hr : Region.ready md ops listed = [i] := by kernel_rfl) (hw : wantB m ops o = some true := by rfl) (hdn : Nat.blt d n = true := by rfl) : wpAnyH P md ops (NP Q) S (fuel + 1) listed a w := dr_one hs ho hr hw hd hdn h1 hS h
theorem d1D (i : Nat) (hs : Slots n m a) (ho : ops[i]? = some o) (hd : o.dst = none) (h1 : Op1 P n m o w R) (hS : ∀ v w', R v w' → S w') (h : ∀ v w' a', R v w' → Slots n m a' → wpAnyH P md ops (NP Q) S fuel (listed.setIfInBounds i true) a' w')
    (hr : Region.ready md ops listed = [i] := by kernel_rfl) (hw : wantB m ops o = some true := by rfl) : wpAnyH P md ops (NP Q) S (fuel + 1) listed a w := dr_oneDo hs ho hr hw hd h1 hS h
end
end Go.Proofs.Ytpcbgkmnjmiigaa

/- Steps of a walk over known slots: rows and blocks of other types lie apart; three results, the first one a struct in a cell. Conditions: none. -/
namespace Go.Proofs.Ytpcbgkmnjmiigaa
open Go.RowKit
section
variable {P : Program} {n : Nat} {m : List (Nat × Value)} {w x : World} {N : Nat} {T : TypeId} {cs : Array Value}
theorem own_neT {B sz k : Nat} {e : TypeId} {v : Value} {xs : List Value} (h : w.ownsRow B e sz v k xs) (hb : Blk w N T cs) (hT : e ≠ T) : v.ownBlock ≠ some N := fun e1 => by
  rcases h.2 with ⟨rfl, _⟩ | ⟨g, c, cur, rfl, hg, hh, _⟩
  · simp [Value.ownBlock] at e1
  · simp only [Value.ownBlock, Option.some.injEq] at e1
    subst e1
    have := hh.symm.trans hb
    simp only [Option.some.injEq, Obj.cells.injEq] at this
    exact hT this.2.1
end
end Go.Proofs.Ytpcbgkmnjmiigaa

/- Maps that the call makes: a list of keys and values; lookups, stores, deletes, lengths. Conditions: none. -/
namespace Go.Proofs.Ytpcbgkmnjmiigaa
open Go.RowKit

section
variable {K : Type} [DecidableEq K]
/-- The place and the value of a key. -/
def lookK (a : K) : List (K × Value) → Nat → Option (Nat × Value)
  | [], _ => none
  | p :: r, i => if a = p.1 then some (i, p.2) else lookK a r (i + 1)
def getK (l : List (K × Value)) (a : K) : Option Value := (lookK a l 0).map (·.2)
theorem lookK_shift (a : K) : ∀ (l : List (K × Value)) (i j : Nat), lookK a l (i + j) = (lookK a l j).map fun p => (i + p.1, p.2)
  | [], _, _ => rfl
  | p :: r, i, j => by
    unfold lookK
    split
    · rfl
    · rw [Nat.add_assoc]; exact lookK_shift a r i (j + 1)
theorem getK_cons (p : K × Value) (l : List (K × Value)) (b : K) : getK (p :: l) b = if b = p.1 then some p.2 else getK l b := by
  simp only [getK, lookK]
  split
  · rfl
  · rw [show (0 : Nat) + 1 = 1 + 0 from rfl, lookK_shift]; cases lookK b l 0 <;> rfl
@[simp] theorem getK_nil (b : K) : getK ([] : List (K × Value)) b = none := rfl
end

section
variable {K : Type}
variable {P : Program} {n : Nat} {m : List (Nat × Value)} {w x : World} {o : Oper} {B : Nat} {l : List (K × Value)} {kv : K → Value} {kt e t : TypeId} {q r : Operand} {a : K}
/-- Block B is a map that holds just these entries. -/
def MapB (kv : K → Value) (w : World) (B : Nat) (l : List (K × Value)) : Prop :=
  ∃ es clock, w.heap[B]? = some (.map es clock) ∧ es.toList.map (fun e => (e.key, e.val)) = l.map (fun p => (kv p.1, p.2)) ∧ (l.map (·.1)).Nodup ∧ (es.toList.map (·.born)).Nodup ∧ ∀ e ∈ es.toList, e.born < clock
theorem MapB.lt (h : MapB kv w B l) : B < w.heap.size := by obtain ⟨_, _, h, _⟩ := h; exact (Array.getElem?_eq_some_iff.1 h).1
theorem MapB.keys (h : MapB kv w B l) : (l.map (·.1)).Nodup := by obtain ⟨_, _, _, _, h, _⟩ := h; exact h
theorem MapB.kept {row : Option Nat} (h : MapB kv w B l) (hg : w.grownBy x row) (hne : row ≠ some B) : MapB kv x B l := by
  obtain ⟨es, c, h1, h2⟩ := h
  exact ⟨es, c, by rw [hg.block B (Array.getElem?_eq_some_iff.1 h1).1 (fun e => hne e.symm)]; exact h1, h2⟩
theorem MapB.below (h : MapB kv w B l) (hb : Below w.heap.size w x) : MapB kv x B l := h.kept (below_grown hb) (by simp)
end

section
variable {K : Type} [DecidableEq K]
variable {P : Program} {n : Nat} {m : List (Nat × Value)} {w x : World} {o : Oper} {B : Nat} {l : List (K × Value)} {kv : K → Value} {kt e t : TypeId} {q r : Operand} {a : K}
end
end Go.Proofs.Ytpcbgkmnjmiigaa

/- Maps that the call makes, told by a function that says what each key has (a default for those that are not there). Conditions: none. -/
namespace Go.Proofs.Ytpcbgkmnjmiigaa
open Go.RowKit

section
variable {K V : Type} {P : Program} {n : Nat} {m : List (Nat × Value)} {w x : World} {o : Oper} {B : Nat} {kv : K → Value} {kt e t : TypeId} {q r : Operand} {a : K} {enc : V → Value} {z : V} {g : K → V}

/-- Block B is a map; a key a has g a (z, if it is not there). -/
def MapG [DecidableEq K] (kv : K → Value) (enc : V → Value) (z : V) (w : World) (B : Nat) (g : K → V) : Prop := ∃ l, MapB kv w B l ∧ ∀ a, (getK l a).getD (enc z) = enc (g a)
variable [DecidableEq K]
theorem MapG.lt (h : MapG kv enc z w B g) : B < w.heap.size := by obtain ⟨l, h, _⟩ := h; exact h.lt
theorem MapG.kept {row : Option Nat} (h : MapG kv enc z w B g) (hg : w.grownBy x row) (hne : row ≠ some B) : MapG kv enc z x B g := by
  obtain ⟨l, h1, h2⟩ := h; exact ⟨l, h1.kept hg hne, h2⟩
theorem MapG.below (h : MapG kv enc z w B g) (hb : Below w.heap.size w x) : MapG kv enc z x B g := h.kept (below_grown hb) (by simp)
theorem MapG.row {B' : Nat} {T : TypeId} {sz k : Nat} {v : Value} {xs : List Value} (h : MapG kv enc z w B g) (hr : w.ownsRow B' T sz v k xs) : v.ownBlock ≠ some B := by
  intro e1
  obtain ⟨l, ⟨es, c, h1, _⟩, _⟩ := h
  rcases hr.2 with ⟨rfl, _⟩ | ⟨g1, _, _, rfl, _, hg1, _⟩
  · simp [Value.ownBlock] at e1
  · simp [Value.ownBlock] at e1
    subst e1; rw [h1] at hg1; cases hg1
end
end Go.Proofs.Ytpcbgkmnjmiigaa

/- Ranges over maps that the call made: what is still to come, whichever comes next. Conditions: none. -/
namespace Go.Proofs.Ytpcbgkmnjmiigaa
open Go.RowKit Go.ChangeMaps

section
variable {K : Type} {P : Program} {n : Nat} {m : List (Nat × Value)} {w x : World} {o : Oper} {B r : Nat} {l left : List (K × Value)} {kv : K → Value} {kt e t : TypeId} {q : Operand}
/-- Block r ranges over the map at B; left is still to come. -/
def IterB (kv : K → Value) (w : World) (r B : Nat) (left : List (K × Value)) : Prop :=
  ∃ es clock since seen c0, w.heap[B]? = some (.map es clock) ∧ w.heap[r]? = some (.mapIter (some B) since seen c0) ∧ since ≤ c0 ∧ c0 = clock ∧ (∀ e ∈ es.toList, e.born < since) ∧ (es.toList.map (·.born)).Nodup ∧
    (es.toList.filter fun e => !seen.contains e.born).map (fun e => (e.key, e.val)) = left.map (fun p => (kv p.1, p.2))
theorem IterB.lt (h : IterB kv w r B left) : r < w.heap.size := by obtain ⟨_, _, _, _, _, _, h, _⟩ := h; exact (Array.getElem?_eq_some_iff.1 h).1
theorem IterB.kept {row : Option Nat} (h : IterB kv w r B left) (hg : w.grownBy x row) (h1 : row ≠ some B) (h2 : row ≠ some r) : IterB kv x r B left := by
  obtain ⟨es, c, s, sn, c0, a1, a2, a3⟩ := h
  exact ⟨es, c, s, sn, c0, by rw [hg.block B (Array.getElem?_eq_some_iff.1 a1).1 (fun e => h1 e.symm)]; exact a1, by rw [hg.block r (Array.getElem?_eq_some_iff.1 a2).1 (fun e => h2 e.symm)]; exact a2, a3⟩
theorem IterB.row {B' : Nat} {T : TypeId} {sz k : Nat} {v : Value} {xs : List Value} (h : IterB kv w r B left) (hr : w.ownsRow B' T sz v k xs) : v.ownBlock ≠ some B ∧ v.ownBlock ≠ some r := by
  obtain ⟨es, c, s, sn, c0, a1, a2, _⟩ := h
  rcases hr.2 with ⟨rfl, _⟩ | ⟨g1, _, _, rfl, _, hg1, _⟩
  · simp [Value.ownBlock]
  · constructor
    · intro e1
      simp [Value.ownBlock] at e1
      subst e1; rw [a1] at hg1; cases hg1
    · intro e1
      simp [Value.ownBlock] at e1
      subst e1; rw [a2] at hg1; cases hg1
end
end Go.Proofs.Ytpcbgkmnjmiigaa

/- Maps that the call made, told by a function: what a key has, if anything; and ranges over them. Conditions: none. -/
namespace Go.Proofs.Ytpcbgkmnjmiigaa
open Go.RowKit

section
variable {K V : Type} [DecidableEq K] {P : Program} {n : Nat} {m : List (Nat × Value)} {w x : World} {o : Oper} {B r c : Nat} {kv : K → Value} {enc : V → Value} {g : K → Option V} {kt e t : TypeId} {q s : Operand} {a : K} {v : V} {left : List (K × V)}
/-- Block B is a map of at most c entries; a key a has g a. -/
def MapO (kv : K → Value) (enc : V → Value) (w : World) (B : Nat) (g : K → Option V) (c : Nat) : Prop := ∃ l, MapB kv w B l ∧ (∀ a, getK l a = (g a).map enc) ∧ l.length ≤ c
theorem MapO.lt (h : MapO kv enc w B g c) : B < w.heap.size := by obtain ⟨l, h, _⟩ := h; exact h.lt
theorem MapO.kept {row : Option Nat} (h : MapO kv enc w B g c) (hg : w.grownBy x row) (hne : row ≠ some B) : MapO kv enc x B g c := by
  obtain ⟨l, h1, h2⟩ := h; exact ⟨l, h1.kept hg hne, h2⟩
theorem MapO.below (h : MapO kv enc w B g c) (hb : Below w.heap.size w x) : MapO kv enc x B g c := h.kept (below_grown hb) (by simp)
theorem MapO.row {B' : Nat} {T : TypeId} {sz k : Nat} {u : Value} {xs : List Value} (h : MapO kv enc w B g c) (hr : w.ownsRow B' T sz u k xs) : u.ownBlock ≠ some B := by
  intro e1
  obtain ⟨l, ⟨es, c', h1, _⟩, _⟩ := h
  rcases hr.2 with ⟨rfl, _⟩ | ⟨g1, _, _, rfl, _, hg1, _⟩
  · simp [Value.ownBlock] at e1
  · simp [Value.ownBlock] at e1
    subst e1; rw [h1] at hg1; cases hg1
/-- lt holds just what g has. -/
def Full (g : K → Option V) (lt : List (K × V)) : Prop := (lt.map (·.1)).Nodup ∧ ∀ a v, g a = some v ↔ (a, v) ∈ lt
theorem getK_mem : ∀ (l : List (K × Value)) (a : K) (u : Value), (l.map (·.1)).Nodup → (getK l a = some u ↔ (a, u) ∈ l)
  | [], a, u, _ => by simp
  | p :: r, a, u, h => by
    rw [List.map_cons, List.nodup_cons] at h
    have ih := getK_mem r a u h.2
    rw [getK_cons]
    by_cases e1 : a = p.1
    · rw [if_pos e1]
      constructor
      · intro h1
        have : p.2 = u := Option.some.inj h1
        exact List.mem_cons.2 (.inl (Prod.ext e1 this.symm))
      · intro h1
        rcases List.mem_cons.1 h1 with h2 | h2
        · rw [← h2]
        · exact absurd (e1 ▸ List.mem_map_of_mem (f := (·.1)) h2) h.1
    · rw [if_neg e1, ih]
      constructor
      · exact fun h1 => List.mem_cons_of_mem _ h1
      · intro h1
        rcases List.mem_cons.1 h1 with h2 | h2
        · exact absurd (by rw [← h2]) e1
        · exact h2
omit [DecidableEq K] in
theorem typed_list (g : K → Option V) (enc : V → Value) : ∀ (l : List (K × Value)), (∀ p ∈ l, (g p.1).map enc = some p.2) → ∃ lt : List (K × V), l = lt.map (fun p => (p.1, enc p.2)) ∧ ∀ p ∈ lt, g p.1 = some p.2
  | [], _ => ⟨[], rfl, by simp⟩
  | p :: r, h => by
    obtain ⟨lt, h1, h2⟩ := typed_list g enc r (fun y hy => h y (List.mem_cons_of_mem _ hy))
    have hp := h p (by simp)
    cases hg : g p.1 with
    | none => rw [hg] at hp; cases hp
    | some v =>
      rw [hg] at hp
      have hv : enc v = p.2 := Option.some.inj hp
      refine ⟨(p.1, v) :: lt, by rw [List.map_cons, ← h1, hv], fun y hy => ?_⟩
      rcases List.mem_cons.1 hy with rfl | hy
      · exact hg
      · exact h2 y hy
theorem MapO.list (h : MapO kv enc w B g c) : ∃ lt : List (K × V), MapB kv w B (lt.map fun p => (p.1, enc p.2)) ∧ Full g lt ∧ lt.length ≤ c := by
  obtain ⟨l, h1, h2, h3⟩ := h
  have hn := h1.keys
  obtain ⟨lt, e1, e2⟩ := typed_list g enc l (fun p hp => by rw [← h2]; exact (getK_mem l p.1 p.2 hn).2 hp)
  subst e1
  have hn' : (lt.map (·.1)).Nodup := by rw [List.map_map] at hn; exact hn
  refine ⟨lt, h1, ⟨hn', fun a v => ⟨fun hg => ?_, fun hm => e2 _ hm⟩⟩, by simpa using h3⟩
  have h4 := h2 a
  rw [hg] at h4
  have h5 := (getK_mem _ a (enc v) hn).1 h4
  obtain ⟨p, hp, hq⟩ := List.mem_map.1 h5
  have e3 : p.1 = a := (Prod.mk.inj hq).1
  have e4 := e2 p hp
  rw [e3, hg] at e4
  have : v = p.2 := Option.some.inj e4
  rw [← e3, this]; exact hp
/-- A range over it, what is still to come told as keys and values. -/
def IterO (kv : K → Value) (enc : V → Value) (w : World) (r B : Nat) (left : List (K × V)) : Prop := IterB kv w r B (left.map fun p => (p.1, enc p.2))
omit [DecidableEq K] in
theorem IterO.lt (h : IterO kv enc w r B left) : r < w.heap.size := IterB.lt h
omit [DecidableEq K] in
theorem IterO.kept {row : Option Nat} (h : IterO kv enc w r B left) (hg : w.grownBy x row) (h1 : row ≠ some B) (h2 : row ≠ some r) : IterO kv enc x r B left := IterB.kept h hg h1 h2
omit [DecidableEq K] in
theorem IterO.row {B' : Nat} {T : TypeId} {sz k : Nat} {u : Value} {xs : List Value} (h : IterO kv enc w r B left) (hr : w.ownsRow B' T sz u k xs) : u.ownBlock ≠ some B ∧ u.ownBlock ≠ some r := IterB.row h hr
end
section
variable {P : Program} {n : Nat} {m : List (Nat × Value)} {w : World} {o : Oper}
end
end Go.Proofs.Ytpcbgkmnjmiigaa

/- A world that is as another was, but for some blocks. Conditions: none. -/
namespace Go.Proofs.Ytpcbgkmnjmiigaa
open Go.RowKit

/-- What was there is as it was, but for the blocks that S tells. -/
structure But (S : Nat → Prop) (w w' : World) : Prop where
  os : w'.os = w.os
  tape : w'.tape = w.tape
  output : w'.output = w.output
  size : w.heap.size ≤ w'.heap.size
  block : ∀ k, k < w.heap.size → ¬ S k → w'.heap[k]? = w.heap[k]?

theorem But.refl (S : Nat → Prop) (w : World) : But S w w := ⟨rfl, rfl, rfl, Nat.le_refl _, fun _ _ _ => rfl⟩
theorem But.trans {S : Nat → Prop} {a b c : World} (h : But S a b) (k : But S b c) : But S a c :=
  ⟨k.os.trans h.os, k.tape.trans h.tape, k.output.trans h.output, Nat.le_trans h.size k.size, fun i hi hs => (k.block i (Nat.lt_of_lt_of_le hi h.size) hs).trans (h.block i hi hs)⟩
theorem But.mono {S S' : Nat → Prop} {w w' : World} (h : But S w w') (hs : ∀ k, k < w.heap.size → S k → S' k) : But S' w w' :=
  ⟨h.os, h.tape, h.output, h.size, fun k hk hn => h.block k hk (fun h1 => hn (hs k hk h1))⟩
theorem But.of_below {S : Nat → Prop} {w w' : World} (h : Below w.heap.size w w') : But S w w' := ⟨h.os, h.tape, h.output, h.size, fun k hk _ => h.block k hk⟩
theorem But.below {S : Nat → Prop} {w w' : World} {B : Nat} (h : But S w w') (hB : B ≤ w.heap.size) (hs : ∀ k, k < w.heap.size → S k → B ≤ k) : Below B w w' :=
  ⟨h.os, h.tape, h.output, h.size, fun k hk => h.block k (by omega) (fun h1 => by have := hs k (by omega) h1; omega)⟩
/-- Two steps, the second one over blocks that may be new. -/
theorem But.trans' {S S' : Nat → Prop} {a b c : World} (h : But S a b) (k : But S' b c) (hs : ∀ i, i < a.heap.size → S' i → S i) : But S a c :=
  ⟨k.os.trans h.os, k.tape.trans h.tape, k.output.trans h.output, Nat.le_trans h.size k.size, fun i hi hn => (k.block i (Nat.lt_of_lt_of_le hi h.size) (fun h1 => hn (hs i hi h1))).trans (h.block i hi hn)⟩
/-- From below B on: what turns are blocks from B on. -/
theorem below_but {S : Nat → Prop} {B : Nat} {a b c : World} (h : Below B a b) (k : But S b c) (hB : B ≤ b.heap.size) (hs : ∀ i, i < b.heap.size → S i → B ≤ i) : Below B a c := h.trans (k.below hB hs)
theorem But.alloc {S : Nat → Prop} {a w : World} (h : But S a w) (o : Obj) : But S a (w.alloc o) :=
  h.trans ⟨rfl, rfl, rfl, by simp, fun k hk _ => Below.heap_alloc _ _ _ hk⟩
theorem But.drew {S : Nat → Prop} {a w : World} (h : But S a w) : But S a w.drew := ⟨h.os, h.tape, h.output, h.size, h.block⟩
theorem But.draws {S : Nat → Prop} {a w : World} (h : But S a w) (n : Nat) : But S a (w.drewN n) := ⟨h.os, h.tape, h.output, h.size, h.block⟩
theorem But.setCell {S : Nat → Prop} {a w : World} (h : But S a w) {p : Addr} (hp : p.block < a.heap.size → S p.block) (u : Value) : But S a (w.setCell p u) :=
  h.trans' (S' := fun k => k = p.block) ⟨rfl, rfl, rfl, by simp [World.setCell], fun k _ hn => Below.heap_setCell _ _ _ _ hn⟩ (fun i hi e => by subst e; exact hp hi)
theorem But.cell {S : Nat → Prop} {w w' : World} (h : But S w w') {a : Addr} {v : Value} (hs : ¬ S a.block) (hc : w.cell? a = some v) : w'.cell? a = some v := by
  rw [World.cell?_of_block (w := w) (h.block _ (World.block_lt_of_cell? w a hc) hs)]; exact hc
theorem But.frozen {S : Nat → Prop} {w w' : World} (h : But S w w') {a : Addr} (hl : a.block < w.heap.size) (hs : ¬ S a.block) : w'.frozen? a = w.frozen? a := World.frozen?_of_block (w := w) (h.block _ hl hs)
/-- A store into one block. -/
theorem But.store {a w : World} {b : Nat} (h : But (fun x => x = b) a w) (o : Nat) (u : Value) : But (fun x => x = b) a (w.setCell ⟨b, o, none⟩ u) :=
  h.setCell (p := ⟨b, o, none⟩) (fun _ => rfl) u
end Go.Proofs.Ytpcbgkmnjmiigaa

/- 'append(row, text...)' in a region that draws its order. Conditions: none. -/
namespace Go.Proofs.Ytpcbgkmnjmiigaa
open Go.RowKit

theorem row_low {w : World} {B B' : Nat} {e : TypeId} {k : Nat} {v : Value} {n : Nat} {xs : List Value} (h : w.ownsRow B e k v n xs) (hB : B' ≤ B) : w.ownsRow B' e k v n xs := by
  obtain ⟨h1, h2⟩ := h
  refine ⟨h1, ?_⟩
  rcases h2 with h2 | ⟨g, cap, cur, hv, hg, r⟩
  · exact Or.inl h2
  · exact Or.inr ⟨g, cap, cur, hv, Nat.le_trans hB hg, r⟩
/-- An append of a text: the row stays in its block, or goes into a new one. -/
theorem run_append_str_fresh {P : Program} (w : World) (base : Nat) (t u ty e : TypeId) (i : TypeInfo) (ht : P.underlying t = some (.slice e)) (hu : P.underlying u = some .string) (hi : P.info? e = some i) (hz : i.zero = some (.int .u8 0))
    (hsize : i.size = 1) (hby : i.bytes = 1)
    (v : Value) (n : Nat) (xs : List Value) (hown : w.ownsRow base e 1 v n xs) (s : ByteArray)
    (h63 : n + s.size ≤ maxLen) (hbytes : n + s.size ≤ 140737488355328) (hbase : base ≤ w.heap.size) :
    ∃ v' w', (Builtin.append_ #[t, u] ty #[v, .string s]).run P w = .ok v' w' ∧ w'.ownsRow base e 1 v' (n + s.size) (xs ++ Lib.strCells s) ∧ w.grownBy w' v.ownBlock ∧
      (v'.ownBlock = v.ownBlock ∨ ∀ k, v'.ownBlock = some k → w.heap.size ≤ k) := by
  have hsmall : n + s.size ≤ 9223372036854775807 := by simp only [maxLen] at h63; omega
  have hxl : xs.length = n := by simpa using hown.1
  have hown2 := hown
  rcases hown.2 with ⟨rfl, rfl⟩ | ⟨g, cap, cur, rfl, hbg, hg, hnc, hcm, hcs, htake⟩
  · have h0 : w.ownsRow w.heap.size e 1 (.slice none 0 0) 0 xs := ⟨hown.1, Or.inl ⟨rfl, rfl⟩⟩
    obtain ⟨v', w', hr, h2, h3, _⟩ := Lib.run_append_own_string (P := P) w w.heap.size t u ty e i ht hu hi hz hsize hby _ 0 xs h0 s h63 hbytes (Nat.le_refl _)
    exact ⟨v', w', hr, row_low h2 hbase, h3, Or.inr (fun k hk => (h2.lt k hk).1)⟩
  · obtain ⟨v', w', hr, h2, h3, _⟩ := Lib.run_append_own_string (P := P) w base t u ty e i ht hu hi hz hsize hby _ n xs hown s h63 hbytes hbase
    refine ⟨v', w', hr, h2, h3, ?_⟩
    by_cases hroom : n + s.size ≤ cap
    · have hcs' : cur.size = cap := by simpa using hcs
      have hr2 := Lib.run_append_room_string (P := P) w t u ty e i ht hu hi hsize g n cap cur hg s hroom (by omega)
      rw [hr] at hr2
      simp only [Result.ok.injEq] at hr2
      rw [hr2.1]
      exact Or.inl rfl
    · have holds : ∀ j u, xs[j]? = some u → w.cell? ((⟨g, 0, none⟩ : Addr).add j) = some u := hown2.cells (g := g) rfl
      have hr2 := Lib.run_append_grow_string (P := P) w t u ty e i (.int .u8 0) ht hu hi hz ⟨g, 0, none⟩ n cap xs (by rw [hsize]; simpa using hxl) holds s (by omega) (by omega) (by rw [hby]; exact growslice_fits (by omega) (by omega))
      rw [hr] at hr2
      simp only [Result.ok.injEq] at hr2
      rw [hr2.1]
      exact Or.inr (fun k hk => by simp [Value.ownBlock] at hk; omega)
theorem step_append_str {P : Program} {w : World} {ops : Array Oper} {o : Oper} {a : Act} {K : Act → World → Prop} {Q : Exit → Act → World → Prop} {E : Prop} (hgd : o.guard = none) (sl x : Operand) (t u : TypeId)
    (ho : o.op = .call { callee := .builtin .append, args := #[sl, x], argTypes := #[t, u] })
    (base : Nat) (e : TypeId) (i : TypeInfo) (ht : P.underlying t = some (.slice e)) (hu : P.underlying u = some .string) (hi : P.info? e = some i) (hz : i.zero = some (.int .u8 0))
    (hsize : i.size = 1) (hby : i.bytes = 1)
    (v : Value) (n : Nat) (xs : List Value) (hs : a.eval sl = v) (hown : w.ownsRow base e 1 v n xs) (s : ByteArray) (hx : a.eval x = .string s)
    (h63 : n + s.size ≤ maxLen) (hbytes : n + s.size ≤ 140737488355328) (hbase : base ≤ w.heap.size)
    (h : ∀ ao c w', w'.ownsRow base e 1 (.slice ao (n + s.size) c) (n + s.size) (xs ++ Lib.strCells s) → w.grownBy w' v.ownBlock → ((Value.slice ao (n + s.size) c).ownBlock = v.ownBlock ∨ ∀ k, (Value.slice ao (n + s.size) c).ownBlock = some k → w.heap.size ≤ k) → K (a.put o.dst (.slice ao (n + s.size) c)) w') :
    if Region.wanted o (yielded ops a.tmps) = true then Oper.wp P o a w K Q else E := by
  have hw : Region.wanted o (yielded ops a.tmps) = true := by simp [Region.wanted, hgd]
  rw [if_pos hw]
  obtain ⟨v', w', hr, h2, h3, h4⟩ := run_append_str_fresh (P := P) w base t u o.type e i ht hu hi hz hsize hby v n xs hown s h63 hbytes hbase
  unfold Oper.wp execOp
  simp only [ho, resolve, invoke, builtin, Sem.run_bind, Sem.run_pure, Result.andThen_ok, List.map_toArray, List.map_cons, List.map_nil, hs, hx, hr]
  obtain ⟨ao, c, rfl, _⟩ := row_view h2
  exact h ao c w' h2 h3 h4
end Go.Proofs.Ytpcbgkmnjmiigaa

/- Steps of a walk over an object's own parts: effects upon a set of blocks, appends that tell where the row went, bytes, maps looked up, rows and maps cleared. Conditions: none. -/
namespace Go.Proofs.Ytpcbgkmnjmiigaa
open Go.RowKit

section
variable {P : Program} {n : Nat} {m : List (Nat × Value)} {w x w0 : World} {o : Oper} {N : Nat} {T : TypeId} {cs : Array Value} {S : Nat → Prop} {v u : Value} {k : Nat}
theorem grown_butU {row : Option Nat} (hg : w.grownBy x row) : But (fun k => row = some k) w x := ⟨hg.os, hg.tape, hg.output, hg.size, fun k hk hn => hg.block k hk (fun e => hn e.symm)⟩
theorem fbU_new (h : But S w0 w) (hg : w.grownBy x none) : But S w0 x := h.trans (But.of_below (grown_below hg))
theorem fbU_call (h : But S w0 w) (hb : Below w.heap.size w x) : But S w0 x := h.trans (But.of_below hb)
theorem fbU_at (h : But S w0 w) (hg : w.grownBy x (some N)) (hN : N < w0.heap.size → S N) : But S w0 x :=
  h.trans' (S' := fun k => some N = some k) (grown_butU hg) (fun i hi e => by cases e; exact hN hi)
/-- Where a row lies: in S, or it was made since a world of n blocks. -/
def InS (S : Nat → Prop) (n : Nat) (v : Value) : Prop := ∀ k, v.ownBlock = some k → S k ∨ n ≤ k
theorem fbU_row (h : But S w0 w) (hi : InS S w0.heap.size v) (hg : w.grownBy x v.ownBlock) : But S w0 x :=
  h.trans' (S' := fun k => v.ownBlock = some k) (grown_butU hg) (fun i hi' e => by
    rcases hi i e with h1 | h1
    · exact h1
    · omega)
theorem fbU_foot {S' : Nat → Prop} (h : But S w0 w) (hb : But S' w x) (hs : ∀ i, i < w0.heap.size → S' i → S i) : But S w0 x := h.trans' hb hs
theorem row_under {B sz q : Nat} {e : TypeId} {xs : List Value} (h : w.ownsRow B e sz v q xs) (hN : N = w.heap.size) : ∀ i, v.ownBlock = some i → i < N := fun i hi => by have := (h.lt i hi).2; omega
/-- The row stayed in its block, or went into a new one. -/
def Went (w : World) (v u : Value) : Prop := u.ownBlock = v.ownBlock ∨ ∀ k, u.ownBlock = some k → w.heap.size ≤ k
theorem InS.went (h : InS S k v) (hf : Went w v u) (hn : k ≤ w.heap.size) : InS S k u := fun i hi => by
  rcases hf with e | e
  · exact h i (e ▸ hi)
  · exact .inr (Nat.le_trans hn (e i hi))
theorem InS.nil : InS S k (.slice none 0 0) := fun i hi => by simp [Value.ownBlock] at hi
theorem InS.of (h : ∀ i, v.ownBlock = some i → S i) : InS S k v := fun i hi => .inl (h i hi)
theorem InS.low {B : Nat} {e : TypeId} {sz q : Nat} {xs : List Value} (h : w.ownsRow B e sz v q xs) (hB : k ≤ B) : InS S k v := fun i hi => .inr (Nat.le_trans hB (h.lt i hi).1)
/-- What S grows to. -/
def grow' (S : Nat → Prop) (a b : Nat) : Nat → Prop := fun q => S q ∨ (a ≤ q ∧ q < b)
theorem InS.fin {e : TypeId} {sz q B : Nat} {xs : List Value} (h : InS S k v) (hr : w.ownsRow B e sz v q xs) : ∀ i, v.ownBlock = some i → grow' S k w.heap.size i := fun i hi => by
  rcases h i hi with h1 | h1
  · exact .inl h1
  · exact .inr ⟨h1, (hr.lt i hi).2⟩

theorem run_append_went {P : Program} (w : World) (base : Nat) (t ty e : TypeId) (i : TypeInfo) (z : Value) (size bytes : Nat) (ht : P.underlying t = some (.slice e)) (hi : P.info? e = some i) (hz : i.zero = some z)
    (hsize : i.size = size) (hby : i.bytes = bytes) (hzs : z.cells.size = size) (hsz : 0 < size) (v : Value) (n : Nat) (xs : List Value) (hown : w.ownsRow base e size v n xs)
    (a : Addr) (m c : Nat) (news : List Value) (hl : news.length = m * size) (hnews : ∀ j u, news[j]? = some u → w.cell? (a.add j) = some u) (h1 : ∀ u ∈ news, u.oneCell' = true)
    (h63 : n + m ≤ maxLen) (hbytes : (n + m) * bytes ≤ 140737488355328) (hbase : base ≤ w.heap.size) :
    ∃ v' w', (Builtin.append_ #[t, t] ty #[v, .slice (some a) m c]).run P w = .ok v' w' ∧ w'.ownsRow base e size v' (n + m) (xs ++ news) ∧ w.grownBy w' v.ownBlock ∧ Went w v v' := by
  have hsmall : n + m ≤ 9223372036854775807 := by simp only [maxLen] at h63; omega
  rcases hown.2 with ⟨rfl, rfl⟩ | ⟨g, cap, cur, rfl, hbg, hg, hnc, hcm, hcs, htake⟩
  · have h0 : w.ownsRow w.heap.size e size (.slice none 0 0) 0 xs := ⟨hown.1, Or.inl ⟨rfl, rfl⟩⟩
    obtain ⟨v', w', hr, h2, h3, _⟩ := run_append_own (P := P) w w.heap.size t ty e i z size bytes ht hi hz hsize hby hzs hsz _ 0 xs h0 a m c news hl hnews h1 h63 hbytes (Nat.le_refl _)
    exact ⟨v', w', hr, row_low h2 hbase, h3, Or.inr (fun k hk => (h2.lt k hk).1)⟩
  · obtain ⟨v', w', hr, h2, h3, _⟩ := run_append_own (P := P) w base t ty e i z size bytes ht hi hz hsize hby hzs hsz _ n xs hown a m c news hl hnews h1 h63 hbytes hbase
    refine ⟨v', w', hr, h2, h3, ?_⟩
    by_cases hroom : n + m ≤ cap
    · have hfit : n * i.size + news.length ≤ cur.size := by
        rw [hl, hcs, hsize, ← Nat.add_mul]; exact Nat.mul_le_mul_right _ hroom
      have hr2 := run_append_room (P := P) w t ty e i ht hi g n cap cur hg a m c news (by rw [hsize]; exact hl) hnews h1 hroom hfit
      rw [hr] at hr2
      simp only [Result.ok.injEq] at hr2
      rw [hr2.1]
      exact Or.inl rfl
    · have holds : ∀ j u, xs[j]? = some u → w.cell? ((⟨g, 0, none⟩ : Addr).add j) = some u := hown.cells (g := g) rfl
      have hr2 := run_append_grow (P := P) w t ty e i z ht hi hz ⟨g, 0, none⟩ n cap xs (by rw [hsize]; exact hown.1) holds a m c news (by rw [hsize]; exact hl) hnews (by omega) (by omega) (by rw [hby]; exact growslice_fits (by omega) hbytes)
      rw [hr] at hr2
      simp only [Result.ok.injEq] at hr2
      rw [hr2.1]
      exact Or.inr (fun k hk => by simp [Value.ownBlock] at hk; omega)
theorem op_appendF {s q : Operand} {t : TypeId} (ho : o.op = .call { callee := .builtin .append, args := #[s, q], argTypes := #[t, t] })
    (base : Nat) (e : TypeId) {z : Value} {size bytes : Nat} (ht : P.underlying t = some (.slice e)) (hi : (P.info? e).map (fun i => (i.zero, i.size, i.bytes)) = some (some z, size, bytes))
    (hzs : z.cells.size = size) (hsz : Nat.blt 0 size = true) {k : Nat} {xs : List Value} (hs : ev m s = some v) (hown : w.ownsRow base e size v k xs)
    {M q' c : Nat} {ws : Array Value} {T' : TypeId} (hx : ev m q = some (.slice (some ⟨M, 0, none⟩) q' c)) (hb : Blk w M T' ws) (hl : ws.size = q' * size) (h1 : ws.all (·.oneCell') = true)
    (h63 : k + q' ≤ 9223372036854775807) (hbytes : (k + q') * bytes ≤ 140737488355328) (hbase : base ≤ w.heap.size) :
    Op1 P n m o w (fun u x => x.ownsRow base e size u (k + q') (xs ++ ws.toList) ∧ Went w v u ∧ w.grownBy x v.ownBlock) := by
  intro a ha K Q hN
  obtain ⟨i0, hii, hz0, hz1, hz2⟩ := info_parts hi
  obtain ⟨v', w', hr, h2, h3, h4⟩ := run_append_went (P := P) w base t o.type e i0 z size bytes ht hii hz0 hz1 hz2 hzs (by simpa using hsz) v k xs hown ⟨M, 0, none⟩ q' c ws.toList (by simpa using hl)
    (fun j u hu => by rw [Addr.add_lit, Nat.zero_add]; exact hb.cell (by simpa using hu)) (fun u hu => (Array.all_eq_true_iff_forall_mem.1 h1) u (by simpa using hu)) (by unfold maxLen; exact h63) hbytes hbase
  unfold Oper.wp execOp
  simp only [ho, resolve, invoke, builtin, Sem.run_bind, Sem.run_pure, Result.andThen_ok, List.map_toArray, List.map_cons, List.map_nil, ha.ev hs, ha.ev hx, hr]
  exact hN _ _ ⟨h2, h4, h3⟩
end
section
variable {K V : Type} [DecidableEq K] {P : Program} {n : Nat} {m : List (Nat × Value)} {w x : World} {o : Oper} {B r c : Nat} {kv : K → Value} {enc : V → Value} {g : K → Option V} {kt e t : TypeId} {q s : Operand} {a : K} {v : V}
end
section
variable {P : Program} {n : Nat} {m : List (Nat × Value)} {w : World} {o : Oper} {v : Value} {α : Type} {enc : α → List Value} {l : List α} {sz base : Nat} {T : TypeId}
end
end Go.Proofs.Ytpcbgkmnjmiigaa

/- Objects with a footprint: what holds of them depends on the blocks in S alone; a call turns S, and what it makes joins it. Conditions: none. -/
namespace Go.Proofs.Ytpcbgkmnjmiigaa
open Go.RowKit Go.PlainAid
set_option linter.unusedVariables false

/-- S' holds what S held, and what was made since; nothing but S was turned. -/
structure Grew (S S' : Nat → Prop) (w x : World) : Prop where
  sub : ∀ q, S' q → S q ∨ w.heap.size ≤ q
  but : But S w x
section
variable {S S' D : Nat → Prop} {n N : Nat} {w x : World} {v u : Value} {T e : TypeId} {cs : Array Value} {B sz k : Nat} {xs : List Value}
theorem hbL {w0 : World} (h : Below w0.heap.size w0 w) (hlo : ∀ q, S q → w0.heap.size ≤ q) (hb : But S w x) : Below w0.heap.size w0 x := below_but h hb h.size (fun i _ h => hlo i h)
theorem Grew.lo {n0 : Nat} (h : Grew S S' w x) (hlo : ∀ q, S q → n0 ≤ q) (hn : n0 ≤ w.heap.size) : ∀ q, S' q → n0 ≤ q := fun q hq => by
  rcases h.sub q hq with k | k
  · exact hlo q k
  · omega
theorem Grew.off (h : Grew S S' w x) (hN : ¬ S N) (hl : N < w.heap.size) : ¬ S' N := fun hq => by
  rcases h.sub N hq with k | k
  · exact hN k
  · omega
theorem Grew.offR (h : Grew S S' w x) (hr : w.ownsRow B e sz v k xs) (hv : ∀ i, v.ownBlock = some i → ¬ S i) : ∀ i, v.ownBlock = some i → ¬ S' i := fun i hi => h.off (hv i hi) (hr.lt i hi).2
/-- Two objects that have no block in common go on so, where one is turned. -/
theorem Grew.ap (h : Grew S S' w x) (ha : ∀ q, S q → D q → False) (hD : ∀ q, D q → q < w.heap.size) : ∀ q, S' q → D q → False := fun q h1 h2 => by
  rcases h.sub q h1 with k | k
  · exact ha q k h2
  · have := hD q h2; omega
theorem ap_symm (ha : ∀ q, S q → D q → False) : ∀ q, D q → S q → False := fun q h1 h2 => ha q h2 h1
theorem off_new (hS : ∀ q, S q → q < w.heap.size) (hN : N = w.heap.size) : ¬ S N := fun h => by have := hS N h; omega
theorem off_lo (hlo : ∀ q, S q → n ≤ q) (h : N < n) : ¬ S N := fun hq => by have := hlo N hq; omega
theorem offR_row (hS : ∀ q, S q → q < n) (hr : x.ownsRow B e sz v k xs) (hB : n ≤ B) : ∀ i, v.ownBlock = some i → ¬ S i := fun i hi hq => by have := hS i hq; have := (hr.lt i hi).1; omega
theorem offR_went (h : ∀ i, v.ownBlock = some i → ¬ S i) (hS : ∀ q, S q → q < w.heap.size) (hw : Went w v u) : ∀ i, u.ownBlock = some i → ¬ S i := fun i hi hq => by
  rcases hw with e | e
  · exact h i (e ▸ hi) hq
  · have := e i hi; have := hS i hq; omega
theorem offR_nil : ∀ i, (Value.slice none 0 0).ownBlock = some i → ¬ S i := fun i hi => by simp [Value.ownBlock] at hi
theorem Blk.butS (h : Blk w N T cs) (hb : But S w x) (hn : ¬ S N) : Blk x N T cs := by
  have hl := h.lt
  unfold Blk at h ⊢
  rw [hb.block N hl hn]; exact h
theorem row_block {i : Nat} (h : w.ownsRow B e sz v k xs) (hi : v.ownBlock = some i) : ∃ cs, w.heap[i]? = some (.cells cs e (0, 0)) := by
  rcases h.2 with ⟨rfl, _⟩ | ⟨g, c, cur, rfl, _, hh, _⟩
  · simp [Value.ownBlock] at hi
  · simp only [Value.ownBlock, Option.some.injEq] at hi; subst hi; exact ⟨_, hh⟩
theorem row_sameL (h : w.ownsRow B e sz v k xs) (hk : ∀ i, v.ownBlock = some i → x.heap[i]? = w.heap[i]?) : x.ownsRow B e sz v k xs := by
  refine ⟨h.1, ?_⟩
  rcases h.2 with h1 | ⟨g, c, cur, rfl, hg, hh, h3⟩
  · exact .inl h1
  · exact .inr ⟨g, c, cur, rfl, hg, by rw [hk g rfl]; exact hh, h3⟩
theorem own_butS (h : w.ownsRow B e sz v k xs) (hb : But S w x) (hn : ∀ i, v.ownBlock = some i → ¬ S i) : x.ownsRow B e sz v k xs :=
  row_sameL h fun i hi => hb.block i (h.lt i hi).2 (hn i hi)
theorem MapB.butS {K : Type} [DecidableEq K] {kv : K → Value} {l : List (K × Value)} (h : MapB kv w B l) (hb : But S w x) (hn : ¬ S B) : MapB kv x B l := by
  have hl := h.lt
  obtain ⟨es, cl, h1, h2⟩ := h
  exact ⟨es, cl, by rw [hb.block B hl hn]; exact h1, h2⟩
theorem MapO.butS {K V : Type} [DecidableEq K] {kv : K → Value} {enc : V → Value} {g : K → Option V} {c : Nat} (h : MapO kv enc w B g c) (hb : But S w x) (hn : ¬ S B) : MapO kv enc x B g c := by
  obtain ⟨l, h1, h2⟩ := h; exact ⟨l, h1.butS hb hn, h2⟩
theorem MapG.butS {K V : Type} [DecidableEq K] {kv : K → Value} {enc : V → Value} {z : V} {g : K → V} (h : MapG kv enc z w B g) (hb : But S w x) (hn : ¬ S B) : MapG kv enc z x B g := by
  obtain ⟨l, h1, h2⟩ := h; exact ⟨l, h1.butS hb hn, h2⟩
end
end Go.Proofs.Ytpcbgkmnjmiigaa

/- Slices of texts that came in. Conditions: none. -/
namespace Go.Proofs.Ytpcbgkmnjmiigaa
open Go.RowKit Go.ChangeShapes Go.WideShapes

/-- One text a cell. -/
def strE (s : ByteArray) : List Value := [.string s]
end Go.Proofs.Ytpcbgkmnjmiigaa

/- Package link: what a link holds, what its calls answer, in plain words; a link as an object. Conditions: none. -/
namespace Go.Proofs.Ytpcbgkmnjmiigaa
open Go.RowKit Go.PlainAid Go.Shelf
set_option linter.unusedVariables false

/-- A segment. -/
structure SegT where
  boot : Int
  stream : Int
  seq : Int
  ab : Int
  ast : Int
  asq : Int
  has : Bool
  body : ByteArray
def segE (s : SegT) : List Value := [.int .i64 s.boot, .int .i64 s.stream, .int .i64 s.seq, .int .i64 s.ab, .int .i64 s.ast, .int .i64 s.asq, .bool s.has, .string s.body]
def segV (s : SegT) : Value := .agg #[.int .i64 s.boot, .int .i64 s.stream, .int .i64 s.seq, .int .i64 s.ab, .int .i64 s.ast, .int .i64 s.asq, .bool s.has, .string s.body]
/-- What a link holds. -/
structure LnT where
  boot : Int
  stream : Int
  first : Int
  q : List ByteArray
  told : Int
  peer : Int
  in0 : Int
  next : Int
  owes : Bool
def LnT.seg (L : LnT) (seq : Int) (has : Bool) (body : ByteArray) : SegT := ⟨L.boot, L.stream, seq, L.peer, L.in0, L.next, has, body⟩
def newLn (boot : Int) : LnT := ⟨boot, 1, 0, [], 0, 0, 0, 0, false⟩
def eachL (L : LnT) (f t : Nat) : List (Int × ByteArray) := (List.range' f (t - f)).map fun i : Nat => (L.first + (i : Int), L.q.getD i ⟨#[]⟩)
def outsL (L : LnT) (f t : Nat) : List SegT := (eachL L f t).map fun p => L.seg p.1 true p.2
def LnT.fr (L : LnT) (again : Bool) : Nat := if again = true then 0 else L.told.toNat
def LnT.to (L : LnT) : Nat := min 4 L.q.length
/-- What is to be told from f on, below t. -/
def segsL (L : LnT) (f t : Nat) : List SegT := if t ≤ f then (if L.owes = true then [L.seg L.first false ⟨#[]⟩] else []) else outsL L f t
def outT (L : LnT) (again : Bool) : List SegT := segsL L (L.fr again) L.to
def outN (L : LnT) : LnT := { L with owes := false, told := max L.told (L.to : Int) }
def sendT (L : LnT) (s : ByteArray) : Int × LnT := if 65536 < s.size then (3, L) else if 8 ≤ L.q.length then (6, L) else (0, { L with q := L.q ++ [s] })
def bnd (n : Int) : Bool := decide (0 ≤ n) && decide (n ≤ 1073741824)
def mayT (s : SegT) : Bool := bnd s.boot && bnd s.stream && bnd s.seq && bnd s.ab && bnd s.ast && bnd s.asq && (s.boot != 0)
def knowT (L : LnT) (s : SegT) : LnT :=
  if L.peer < s.boot then (if L.peer = 0 then { L with peer := s.boot, in0 := s.stream, next := 0 } else { L with stream := L.stream + 1, first := 0, told := 0, peer := s.boot, in0 := s.stream, next := 0 })
  else if L.in0 < s.stream then { L with in0 := s.stream, next := 0 } else L
/-- So many texts go. -/
def goneN (L : LnT) (n : Int) : Nat := min (n - L.first).toNat L.q.length
def popT (L : LnT) (n : Int) : LnT := { L with first := L.first + (goneN L n : Int), q := L.q.drop (goneN L n), told := max (L.told - (goneN L n : Int)) 0 }
def ackT (L : LnT) (s : SegT) : LnT := if s.ab = L.boot ∧ s.ast = L.stream then popT L s.asq else L
def inT (L : LnT) (s : SegT) : List ByteArray × Int × LnT :=
  if mayT s = false then ([], 1, L)
  else if s.boot < L.peer then ([], 0, L)
  else if s.has = false then ([], 0, ackT (knowT L s) s)
  else if s.ab = L.boot ∧ s.stream = (ackT (knowT L s) s).in0 ∧ s.seq = (ackT (knowT L s) s).next then ([s.body], 0, { ackT (knowT L s) s with owes := true, next := (ackT (knowT L s) s).next + 1 })
  else ([], 0, { ackT (knowT L s) s with owes := true })

structure LnOk (L : LnT) : Prop where
  boot : 1 ≤ L.boot ∧ L.boot ≤ 1073741824
  stream : 1 ≤ L.stream ∧ L.stream ≤ L.peer + 1
  first : 0 ≤ L.first ∧ L.first ≤ 1073741824
  told : 0 ≤ L.told ∧ L.told ≤ 4
  peer : 0 ≤ L.peer ∧ L.peer ≤ 1073741824
  in0 : 0 ≤ L.in0 ∧ L.in0 ≤ 1073741824
  next : 0 ≤ L.next ∧ L.next ≤ 1073741825
  len : L.q.length ≤ 8
  txt : ∀ s ∈ L.q, s.size ≤ 65536
theorem bnd_iff {n : Int} : bnd n = true ↔ 0 ≤ n ∧ n ≤ 1073741824 := by unfold bnd; simp
theorem mayT_iff {s : SegT} : mayT s = true ↔ (0 ≤ s.boot ∧ s.boot ≤ 1073741824) ∧ (0 ≤ s.stream ∧ s.stream ≤ 1073741824) ∧ (0 ≤ s.seq ∧ s.seq ≤ 1073741824) ∧ (0 ≤ s.ab ∧ s.ab ≤ 1073741824) ∧ (0 ≤ s.ast ∧ s.ast ≤ 1073741824) ∧ (0 ≤ s.asq ∧ s.asq ≤ 1073741824) ∧ s.boot ≠ 0 := by
  unfold mayT; simp only [Bool.and_eq_true, bnd_iff, bne_iff_ne, and_assoc]
theorem newLn_ok {boot : Int} (h : 1 ≤ boot ∧ boot ≤ 1073741824) : LnOk (newLn boot) :=
  ⟨h, ⟨by simp [newLn], by simp [newLn]⟩, ⟨by simp [newLn], by simp [newLn]⟩, ⟨by simp [newLn], by simp [newLn]⟩, ⟨by simp [newLn], by simp [newLn]⟩, ⟨by simp [newLn], by simp [newLn]⟩, ⟨by simp [newLn], by simp [newLn]⟩, by simp [newLn], by simp [newLn]⟩
theorem sendT_ok {L : LnT} (h : LnOk L) (s : ByteArray) : LnOk (sendT L s).2 := by
  unfold sendT
  split
  · exact h
  · split
    · exact h
    · exact ⟨h.boot, h.stream, h.first, h.told, h.peer, h.in0, h.next, by simp; omega, fun x hx => by rcases List.mem_append.1 hx with hx | hx; exact h.txt x hx; simp at hx; subst hx; omega⟩
theorem LnT.to_le (L : LnT) : L.to ≤ 4 ∧ L.to ≤ L.q.length := by unfold LnT.to; omega
theorem outN_ok {L : LnT} (h : LnOk L) : LnOk (outN L) :=
  ⟨h.boot, h.stream, h.first, ⟨by show 0 ≤ max L.told (L.to : Int); omega, by have := h.told; have := L.to_le; show max L.told (L.to : Int) ≤ 4; omega⟩, h.peer, h.in0, h.next, h.len, h.txt⟩
theorem knowT_ok {L : LnT} (h : LnOk L) {s : SegT} (hs : mayT s = true) : LnOk (knowT L s) := by
  obtain ⟨h1, h2, h3, h4, h5, h6, h7⟩ := mayT_iff.1 hs
  have h8 := h.stream; have h9 := h.peer
  unfold knowT
  split
  · split
    · exact ⟨h.boot, ⟨h8.1, by show L.stream ≤ s.boot + 1; omega⟩, h.first, h.told, h1, h2, ⟨by simp [newLn], by simp [newLn]⟩, h.len, h.txt⟩
    · exact ⟨h.boot, ⟨by show 1 ≤ L.stream + 1; omega, by show L.stream + 1 ≤ s.boot + 1; omega⟩, ⟨by simp [newLn], by simp [newLn]⟩, ⟨by simp [newLn], by simp [newLn]⟩, h1, h2, ⟨by simp [newLn], by simp [newLn]⟩, h.len, h.txt⟩
  · split
    · exact ⟨h.boot, h.stream, h.first, h.told, h.peer, h2, ⟨by simp [newLn], by simp [newLn]⟩, h.len, h.txt⟩
    · exact h
theorem goneN_le (L : LnT) (n : Int) : goneN L n ≤ L.q.length := by unfold goneN; omega
theorem popT_ok {L : LnT} (h : LnOk L) {n : Int} (hn : 0 ≤ n ∧ n ≤ 1073741824) : LnOk (popT L n) := by
  have h1 := h.first; have h2 := h.told; have h3 := goneN_le L n; have h4 := h.len
  have h5 : (goneN L n : Int) ≤ (n - L.first).toNat := by unfold goneN; omega
  exact ⟨h.boot, h.stream, ⟨by show 0 ≤ L.first + (goneN L n : Int); omega, by show L.first + (goneN L n : Int) ≤ 1073741824; omega⟩, ⟨by show 0 ≤ max (L.told - (goneN L n : Int)) 0; omega, by show max (L.told - (goneN L n : Int)) 0 ≤ 4; omega⟩, h.peer, h.in0, h.next,
    by show (L.q.drop (goneN L n)).length ≤ 8; rw [List.length_drop]; omega, fun s hs => h.txt s (List.drop_subset _ _ hs)⟩
theorem ackT_ok {L : LnT} (h : LnOk L) {s : SegT} (hs : mayT s = true) : LnOk (ackT L s) := by
  unfold ackT
  split
  · exact popT_ok h (mayT_iff.1 hs).2.2.2.2.2.1
  · exact h
theorem inT_ok {L : LnT} (h : LnOk L) (s : SegT) : LnOk (inT L s).2.2 := by
  unfold inT
  split
  · exact h
  · split
    · exact h
    · have hk := ackT_ok (knowT_ok h (by simpa using ‹¬mayT s = false›)) (by simpa using ‹¬mayT s = false›)
      split
      · exact hk
      · split
        · have h3 := (mayT_iff.1 (by simpa using ‹¬mayT s = false›)).2.2.1
          exact ⟨hk.boot, hk.stream, hk.first, hk.told, hk.peer, hk.in0, ⟨by have := hk.next; show 0 ≤ _ + 1; omega, by rename_i _ _ _ q; show _ + 1 ≤ 1073741825; omega⟩, hk.len, hk.txt⟩
        · exact ⟨hk.boot, hk.stream, hk.first, hk.told, hk.peer, hk.in0, hk.next, hk.len, hk.txt⟩

def lnC (L : LnT) (u : Value) : Array Value := #[.int .i64 L.boot, .int .i64 L.stream, .int .i64 L.first, u, .int .i64 L.told, .int .i64 L.peer, .int .i64 L.in0, .int .i64 L.next, .bool L.owes]
/-- A link at b, its texts in u. -/
def LkU (T : TypeId) (S : Nat → Prop) (w : World) (b : Nat) (u : Value) (L : LnT) : Prop := Blk w b T (lnC L u) ∧ (∃ B, w.ownsRow B 9 1 u L.q.length (L.q.flatMap strE)) ∧ (∀ q, S q ↔ q = b ∨ u.ownBlock = some q) ∧ u.ownBlock ≠ some b ∧ LnOk L
def LkO (T : TypeId) (S : Nat → Prop) (w : World) (b : Nat) (L : LnT) : Prop := ∃ u, LkU T S w b u L
section
variable {T : TypeId} {S S' D : Nat → Prop} {w x : World} {b N : Nat} {u : Value} {L : LnT}
theorem LkU.ofS (h : LkU T S w b u L) : ∀ q, S q → q < w.heap.size := fun q hq => by
  obtain ⟨h1, ⟨B, h2⟩, h3, h4, h5⟩ := h
  rcases (h3 q).1 hq with rfl | h
  · exact h1.lt
  · exact (h2.lt q h).2
theorem LkU.keep (h : LkU T S w b u L) (hk : ∀ q, S q → x.heap[q]? = w.heap[q]?) : LkU T S x b u L := by
  obtain ⟨h1, ⟨B, h2⟩, h3, h4, h5⟩ := h
  refine ⟨?_, ⟨B, row_sameL h2 (fun i hi => hk i ((h3 i).2 (.inr hi)))⟩, h3, h4, h5⟩
  unfold Blk at h1 ⊢
  rw [hk b ((h3 b).2 (.inl rfl))]; exact h1
theorem LkU.gr {row : Option Nat} (h : LkU T S w b u L) (hg : w.grownBy x row) (hr : ∀ k, row = some k → ¬ S k) : LkU T S x b u L := h.keep fun q hq => hg.block q (h.ofS q hq) (fun e => hr q e.symm hq)
theorem LkU.but (h : LkU T S w b u L) (hb : But D w x) (ha : ∀ q, D q → S q → False) : LkU T S x b u L := h.keep fun q hq => hb.block q (h.ofS q hq) (fun hd => ha q hd hq)
theorem LkU.below {n0 : Nat} (h : LkU T S w b u L) (hb : Below n0 w x) (hn : ∀ q, S q → q < n0) : LkU T S x b u L := h.keep fun q hq => hb.block q (hn q hq)
theorem LkU.sl (h : LkU T S w b u L) : SliceOf strE 1 w u L.q := by obtain ⟨h1, ⟨B, h2⟩, _⟩ := h; exact SliceOf.own h2 (fun _ _ => rfl)
theorem LkU.blk (h : LkU T S w b u L) : Blk w b T (lnC L u) := h.1
theorem LkU.ok (h : LkU T S w b u L) : LnOk L := h.2.2.2.2
theorem LkU.sb (h : LkU T S w b u L) : S b := (h.2.2.1 b).2 (.inl rfl)
theorem LkO.ofS (h : LkO T S w b L) : ∀ q, S q → q < w.heap.size := by obtain ⟨u, h⟩ := h; exact h.ofS
theorem LkO.keep (h : LkO T S w b L) (hk : ∀ q, S q → x.heap[q]? = w.heap[q]?) : LkO T S x b L := by obtain ⟨u, h⟩ := h; exact ⟨u, h.keep hk⟩
theorem LkO.gr {row : Option Nat} (h : LkO T S w b L) (hg : w.grownBy x row) (hr : ∀ k, row = some k → ¬ S k) : LkO T S x b L := by obtain ⟨u, h⟩ := h; exact ⟨u, h.gr hg hr⟩
theorem LkO.but (h : LkO T S w b L) (hb : But D w x) (ha : ∀ q, D q → S q → False) : LkO T S x b L := by obtain ⟨u, h⟩ := h; exact ⟨u, h.but hb ha⟩
theorem LkO.below {n0 : Nat} (h : LkO T S w b L) (hb : Below n0 w x) (hn : ∀ q, S q → q < n0) : LkO T S x b L := by obtain ⟨u, h⟩ := h; exact ⟨u, h.below hb hn⟩
theorem LkO.ok (h : LkO T S w b L) : LnOk L := by obtain ⟨u, h⟩ := h; exact h.ok
/-- Behind stores into b alone: another content, the same texts. -/
theorem LkU.re {L' : LnT} (h : LkU T S w b u L) (hx : Blk x b T (lnC L' u)) (hb : But (fun q => q = b) w x) (hq : L'.q = L.q) (hok : LnOk L') : LkU T S x b u L' ∧ Grew S S w x := by
  obtain ⟨h1, ⟨B, h2⟩, h3, h4, h5⟩ := h
  refine ⟨⟨hx, ⟨B, ?_⟩, h3, h4, hok⟩, fun q h => .inl h, hb.mono fun q _ e => (h3 q).2 (.inl e)⟩
  rw [hq]
  exact row_sameL h2 fun i hi => hb.block i (h2.lt i hi).2 (fun e => h4 (by rw [hi]; exact congrArg some e))
/-- Behind a new row of texts, laid since. -/
theorem LkU.row {L' : LnT} {u' : Value} {B : Nat} (h : LkU T S w b u L) (hx : Blk x b T (lnC L' u')) (hr : x.ownsRow B 9 1 u' L'.q.length (L'.q.flatMap strE)) (hB : ∀ i, u'.ownBlock = some i → u.ownBlock = some i ∨ w.heap.size ≤ i) (hb : But S w x) (hok : LnOk L') : LkU T (fun q => q = b ∨ u'.ownBlock = some q) x b u' L' ∧ Grew S (fun q => q = b ∨ u'.ownBlock = some q) w x := by
  obtain ⟨h1, ⟨B0, h2⟩, h3, h4, h5⟩ := h
  have hl := h1.lt
  refine ⟨⟨hx, ⟨B, hr⟩, fun q => Iff.rfl, fun e => ?_, hok⟩, fun q hq => ?_, hb⟩
  · rcases hB b e with k | k
    · exact h4 k
    · omega
  · rcases hq with rfl | hq
    · exact .inl ((h3 _).2 (.inl rfl))
    · rcases hB q hq with k | k
      · exact .inl ((h3 q).2 (.inr k))
      · exact .inr k
theorem LkU.row2 {L' : LnT} {u' : Value} {B : Nat} (h : LkU T S w b u L) (hx : Blk x b T (lnC L' u')) (hr : x.ownsRow B 9 1 u' L'.q.length (L'.q.flatMap strE)) (hI : InS S w.heap.size u') (hne : u'.ownBlock ≠ some b) (hb : But S w x) (hok : LnOk L') : ∃ S' : Nat → Prop, LkU T S' x b u' L' ∧ Grew S S' w x := by
  have hsb := h.sb
  refine ⟨fun q => q = b ∨ u'.ownBlock = some q, ⟨hx, ⟨B, hr⟩, fun q => Iff.rfl, hne, hok⟩, fun q hq => ?_, hb⟩
  rcases hq with rfl | hq
  · exact .inl hsb
  · exact hI q hq
theorem LkU.row3 {L' : LnT} {u' : Value} {B : Nat} (h : LkU T S w b u L) (hx : Blk x b T (lnC L' u')) (hr : x.ownsRow B 9 1 u' L'.q.length (L'.q.flatMap strE)) (hI : InS S w.heap.size u') (hne : u'.ownBlock ≠ some b) (hb : But S w x) (hok : LnOk L') : ∃ S' : Nat → Prop, LkU T S' x b u' L' ∧ Grew S S' w x ∧ ∀ i, w.heap.size ≤ i → u'.ownBlock ≠ some i → ¬ S' i := by
  have hsb := h.sb
  have hl := h.blk.lt
  refine ⟨fun q => q = b ∨ u'.ownBlock = some q, ⟨hx, ⟨B, hr⟩, fun q => Iff.rfl, hne, hok⟩, ⟨fun q hq => ?_, hb⟩, fun i hi hn hq => ?_⟩
  · rcases hq with rfl | hq
    · exact .inl hsb
    · exact hI q hq
  · rcases hq with rfl | hq
    · omega
    · exact hn hq
theorem LkU.same (h : LkU T S w b u L) (hb : Below w.heap.size w x) : LkU T S x b u L ∧ Grew S S w x := ⟨h.gr (below_grown hb) (fun q e => nomatch e), fun q h => .inl h, But.of_below hb⟩
theorem LkU.same' (h : LkU T S w b u L) (hb : But S w x) (hk : Blk x b T (lnC L u)) {B : Nat} (hr : x.ownsRow B 9 1 u L.q.length (L.q.flatMap strE)) : LkU T S x b u L ∧ Grew S S w x := ⟨⟨hk, ⟨B, hr⟩, h.2.2⟩, fun q h => .inl h, hb⟩
theorem LkO.new {boot : Int} (h : Blk w b T #[.int .i64 boot, .int .i64 1, .int .i64 0, .slice none 0 0, .int .i64 0, .int .i64 0, .int .i64 0, .int .i64 0, .bool false]) (hb : 1 ≤ boot ∧ boot ≤ 1073741824) : LkO T (fun q => q = b) w b (newLn boot) :=
  ⟨_, h, ⟨0, World.ownsRow_nil _ _ _ _⟩, fun q => by simp [Value.ownBlock], by simp [Value.ownBlock], newLn_ok hb⟩
end
theorem blk_setL {w : World} {N : Nat} {T : TypeId} {cs : Array Value} (h : Blk w N T cs) (i : Nat) (hi : i < cs.size) (v : Value) : Blk (w.setCell ⟨N, i, none⟩ v) N T (cs.set i v) := by
  have hl := h.lt
  unfold Blk at h ⊢
  unfold World.setCell
  simp [Array.getElem?_modify, h, Array.setIfInBounds, hi]
theorem But.setL {S : Nat → Prop} {w x : World} {b i : Nat} (h : But S w x) (hb : S b) (v : Value) : But S w (x.setCell ⟨b, i, none⟩ v) := h.setCell (p := ⟨b, i, none⟩) (fun _ => hb) v
end Go.Proofs.Ytpcbgkmnjmiigaa

/- catenalaw22: two sides, what is on the way: what stays so whatever happens. Conditions: none. -/
namespace Go.Proofs.Ytpcbgkmnjmiigaa
open Go.RowKit Go.PlainAid Go.Shelf
set_option linter.unusedVariables false
set_option linter.unusedSimpArgs false

/-- Not ahead of what is waited for. -/
def ahd (p i n b s q : Int) : Prop := p < b ∨ (p = b ∧ (i < s ∨ (i = s ∧ n ≤ q)))
/-- One side X tells another side Y: W is on the way to Y; v tells a text's number. -/
structure InvD (v : ByteArray → Int) (X Y : LnT) (bX bY sent told : Int) (W : List SegT) : Prop where
  lb : X.boot = bX
  b1 : 1 ≤ bY
  pX : X.peer ≤ bY
  wb : ∀ s ∈ W, s.boot ≤ bX ∧ s.ab ≤ bY ∧ (s.boot = bX → s.ab ≤ X.peer)
  wm : ∀ s ∈ W, s.has = true → 1 ≤ v s.body ∧ v s.body ≤ sent
  qm : ∀ b ∈ X.q, 1 ≤ v b ∧ v b ≤ sent
  qr : ∀ (i j : Nat) (a b : ByteArray), X.q[i]? = some a → X.q[j]? = some b → i < j → v a < v b
  old : ∀ s ∈ W, s.has = true → s.boot < bX → ∀ b ∈ X.q, v s.body < v b
  tq : X.peer < bY → ∀ b ∈ X.q, told < v b
  tl : 0 ≤ told ∧ told ≤ sent
  e1 : ∀ s ∈ W, ∀ t ∈ W, s.has = true → t.has = true → s.ab = bY → t.ab = bY → (s.boot < t.boot → v s.body < v t.body) ∧ (s.boot = t.boot → s.stream = t.stream ∧ (s.seq < t.seq → v s.body < v t.body))
  e2 : X.peer = bY → ∀ s ∈ W, s.has = true → s.ab = bY → s.boot = bX → s.stream = X.stream ∧ s.seq < X.first + X.q.length ∧ ∀ (i : Nat) (b : ByteArray), X.q[i]? = some b → (s.seq < X.first + i → v s.body < v b) ∧ (X.first + i < s.seq → v b < v s.body)
  l1 : ∀ s ∈ W, s.has = true → s.ab = bY → ahd Y.peer Y.in0 Y.next s.boot s.stream s.seq → told < v s.body
  l2 : X.peer = bY → ∀ (i : Nat) (b : ByteArray), X.q[i]? = some b → ahd Y.peer Y.in0 Y.next bX X.stream (X.first + i) → told < v b
/-- A segment that X tells now. -/
def OutF (X : LnT) (s : SegT) : Prop := s.boot = X.boot ∧ s.stream = X.stream ∧ s.ab = X.peer ∧ (s.has = true → ∃ i : Nat, X.q[i]? = some s.body ∧ s.seq = X.first + i)
section
variable {v : ByteArray → Int} {X Y X' Y' : LnT} {bX bY sent told : Int} {W W' : List SegT}
theorem memq {b : ByteArray} {i : Nat} (h : X.q[i]? = some b) : b ∈ X.q := List.mem_of_getElem? h
theorem InvD.way (h : InvD v X Y bX bY sent told W) (hW : ∀ s ∈ W', s ∈ W ∨ OutF X s) : InvD v X Y bX bY sent told W' := by
  have lb := h.lb
  refine ⟨h.lb, h.b1, h.pX, ?_, ?_, h.qm, h.qr, ?_, h.tq, h.tl, ?_, ?_, ?_, h.l2⟩
  · intro s hs
    rcases hW s hs with k | ⟨k1, k2, k3, k4⟩
    · exact h.wb s k
    · exact ⟨by omega, by have := h.pX; omega, fun _ => by omega⟩
  · intro s hs hh
    rcases hW s hs with k | ⟨k1, k2, k3, k4⟩
    · exact h.wm s k hh
    · obtain ⟨i, hi, _⟩ := k4 hh
      exact h.qm _ (memq hi)
  · intro s hs hh hb
    rcases hW s hs with k | ⟨k1, k2, k3, k4⟩
    · exact h.old s k hh hb
    · omega
  · intro s hs t ht hsh hth hsa hta
    rcases hW s hs with k | ⟨k1, k2, k3, k4⟩
    · rcases hW t ht with m | ⟨m1, m2, m3, m4⟩
      · exact h.e1 s k t m hsh hth hsa hta
      · obtain ⟨i, hi, hi2⟩ := m4 hth
        refine ⟨fun hlt => h.old s k hsh (by omega) _ (memq hi), fun he => ?_⟩
        obtain ⟨q1, q2, q3⟩ := h.e2 (by omega) s k hsh hsa (by omega)
        exact ⟨by omega, fun hlt => (q3 i _ hi).1 (by omega)⟩
    · obtain ⟨j, hj, hj2⟩ := k4 hsh
      rcases hW t ht with m | ⟨m1, m2, m3, m4⟩
      · have := (h.wb t m).1
        refine ⟨fun hlt => by omega, fun he => ?_⟩
        obtain ⟨q1, q2, q3⟩ := h.e2 (by omega) t m hth hta (by omega)
        exact ⟨by omega, fun hlt => (q3 j _ hj).2 (by omega)⟩
      · obtain ⟨i, hi, hi2⟩ := m4 hth
        exact ⟨fun hlt => by omega, fun he => ⟨by omega, fun hlt => h.qr j i _ _ hj hi (by omega)⟩⟩
  · intro hp s hs hh ha hb
    rcases hW s hs with k | ⟨k1, k2, k3, k4⟩
    · exact h.e2 hp s k hh ha hb
    · obtain ⟨j, hj, hj2⟩ := k4 hh
      have hl : j < X.q.length := (List.getElem?_eq_some_iff.1 hj).1
      exact ⟨k2, by omega, fun i b hi => ⟨fun hlt => h.qr j i _ _ hj hi (by omega), fun hlt => h.qr i j _ _ hi hj (by omega)⟩⟩
  · intro s hs hh ha hh2
    rcases hW s hs with k | ⟨k1, k2, k3, k4⟩
    · exact h.l1 s k hh ha hh2
    · obtain ⟨j, hj, hj2⟩ := k4 hh
      refine h.l2 (by omega) j _ hj ?_
      rw [← hj2, ← k2, ← lb, ← k1]; exact hh2
theorem InvD.send {b : ByteArray} (h : InvD v X Y bX bY sent told W) (hb : v b = sent + 1) : InvD v { X with q := X.q ++ [b] } Y bX bY (sent + 1) told W := by
  have htl := h.tl
  have hget : ∀ (i : Nat) (a : ByteArray), (X.q ++ [b])[i]? = some a → X.q[i]? = some a ∨ (i = X.q.length ∧ a = b) := by
    intro i a hi
    by_cases hl : i < X.q.length
    · rw [List.getElem?_append_left hl] at hi; exact .inl hi
    · rw [List.getElem?_append_right (by omega)] at hi
      by_cases he : i - X.q.length = 0
      · rw [he] at hi; simp at hi; exact .inr ⟨by omega, hi.symm⟩
      · obtain ⟨k, hk⟩ : ∃ k, i - X.q.length = k + 1 := ⟨i - X.q.length - 1, by omega⟩
        rw [hk] at hi; simp at hi
  refine ⟨h.lb, h.b1, h.pX, h.wb, ?_, ?_, ?_, ?_, ?_, ?_, h.e1, ?_, h.l1, ?_⟩
  · intro s hs hh; have := h.wm s hs hh; omega
  · intro a ha
    rcases List.mem_append.1 ha with k | k
    · have := h.qm a k; omega
    · simp at k; subst k; omega
  · intro i j a c hi hj hij
    rcases hget i a hi with k | ⟨k1, k2⟩
    · rcases hget j c hj with m | ⟨m1, m2⟩
      · exact h.qr i j a c k m hij
      · subst m2; have := h.qm a (memq k); omega
    · rcases hget j c hj with m | ⟨m1, m2⟩
      · have := (List.getElem?_eq_some_iff.1 m).1; omega
      · omega
  · intro s hs hh hlt a ha
    rcases List.mem_append.1 ha with k | k
    · exact h.old s hs hh hlt a k
    · simp at k; subst k; have := h.wm s hs hh; omega
  · intro hp a ha
    rcases List.mem_append.1 ha with k | k
    · exact h.tq hp a k
    · simp at k; subst k; omega
  · omega
  · intro hp s hs hh hab hbo
    obtain ⟨q1, q2, q3⟩ := h.e2 hp s hs hh hab hbo
    refine ⟨q1, by show s.seq < X.first + ((X.q ++ [b]).length : Int); rw [List.length_append]; simp; omega, fun i a hi => ?_⟩
    rcases hget i a hi with k | ⟨k1, k2⟩
    · exact q3 i a k
    · subst k2 k1
      refine ⟨fun _ => by have := h.wm s hs hh; omega, fun hlt => ?_⟩
      have hlt : X.first + (X.q.length : Int) < s.seq := hlt
      omega
  · intro hp i a hi hah
    rcases hget i a hi with k | ⟨k1, k2⟩
    · exact h.l2 hp i a k hah
    · subst k2; omega
/-- What only the one that is told keeps of the other does not matter to what it tells. -/
theorem InvD.sameX (h : InvD v X Y bX bY sent told W) (h1 : X'.boot = X.boot) (h2 : X'.peer = X.peer) (h3 : X'.stream = X.stream) (h4 : X'.first = X.first) (h5 : X'.q = X.q) : InvD v X' Y bX bY sent told W :=
  ⟨by rw [h1]; exact h.lb, h.b1, by rw [h2]; exact h.pX, by rw [h2]; exact h.wb, h.wm, by rw [h5]; exact h.qm, by rw [h5]; exact h.qr, by rw [h5]; exact h.old, by rw [h2, h5]; exact h.tq, h.tl, h.e1, by rw [h2, h3, h4, h5]; exact h.e2, h.l1, by rw [h2, h3, h4, h5]; exact h.l2⟩
theorem InvD.sameY (h : InvD v X Y bX bY sent told W) (h1 : Y'.peer = Y.peer) (h2 : Y'.in0 = Y.in0) (h3 : Y'.next = Y.next) : InvD v X Y' bX bY sent told W :=
  ⟨h.lb, h.b1, h.pX, h.wb, h.wm, h.qm, h.qr, h.old, h.tq, h.tl, h.e1, h.e2, by rw [h1, h2, h3]; exact h.l1, by rw [h1, h2, h3]; exact h.l2⟩
theorem InvD.pop (h : InvD v X Y bX bY sent told W) (n : Int) : InvD v (popT X n) Y bX bY sent told W := by
  obtain ⟨g, hg⟩ : ∃ g, g = goneN X n := ⟨_, rfl⟩
  have hgl : g ≤ X.q.length := by rw [hg]; exact goneN_le X n
  have hq : (popT X n).q = X.q.drop g := by rw [hg]; rfl
  have hf : (popT X n).first = X.first + (g : Int) := by rw [hg]; rfl
  have hmem : ∀ b ∈ (popT X n).q, b ∈ X.q := fun b hb => by rw [hq] at hb; exact List.mem_of_mem_drop hb
  have hget : ∀ (i : Nat) (a : ByteArray), (popT X n).q[i]? = some a → X.q[g + i]? = some a := fun i a hi => by rw [hq, List.getElem?_drop] at hi; exact hi
  refine ⟨h.lb, h.b1, h.pX, h.wb, h.wm, fun b hb => h.qm b (hmem b hb), fun i j a b hi hj hij => h.qr _ _ a b (hget i a hi) (hget j b hj) (by omega), fun s hs hh hlt b hb => h.old s hs hh hlt b (hmem b hb), fun hp b hb => h.tq hp b (hmem b hb), h.tl, h.e1, ?_, h.l1, ?_⟩
  · intro hp s hs hh hab hbo
    obtain ⟨q1, q2, q3⟩ := h.e2 hp s hs hh hab hbo
    refine ⟨q1, by rw [hf, hq, List.length_drop]; omega, fun i a hi => ?_⟩
    obtain ⟨k1, k2⟩ := q3 (g + i) a (hget i a hi)
    rw [hf]
    exact ⟨fun hlt => k1 (by omega), fun hlt => k2 (by omega)⟩
  · intro hp i a hi hah
    rw [hf] at hah
    refine h.l2 hp (g + i) a (hget i a hi) ?_
    have e : X.first + ((g + i : Nat) : Int) = X.first + (g : Int) + (i : Int) := by omega
    rw [e]; exact hah
/-- The one that tells learns of the other. -/
theorem InvD.know (h : InvD v X Y bX bY sent told W) {s : SegT} (hs : s.boot ≤ bY) : InvD v (knowT X s) Y bX bY sent told W := by
  by_cases hp : X.peer < s.boot
  · have hq : (knowT X s).q = X.q := by unfold knowT; rw [if_pos hp]; split <;> rfl
    have hb : (knowT X s).boot = X.boot := by unfold knowT; rw [if_pos hp]; split <;> rfl
    have hpe : (knowT X s).peer = s.boot := by unfold knowT; rw [if_pos hp]; split <;> rfl
    refine ⟨by rw [hb]; exact h.lb, h.b1, by rw [hpe]; exact hs, ?_, h.wm, by rw [hq]; exact h.qm, by rw [hq]; exact h.qr, by rw [hq]; exact h.old, fun hlt b hbq => h.tq (by rw [hpe] at hlt; omega) b (by rw [← hq]; exact hbq), h.tl, h.e1, ?_, h.l1, ?_⟩
    · intro t ht
      have := h.wb t ht
      exact ⟨this.1, this.2.1, fun e => by rw [hpe]; have := this.2.2 e; omega⟩
    · intro he t ht hh hab hbo
      rw [hpe] at he
      have := (h.wb t ht).2.2 hbo
      omega
    · intro he i b hi _
      rw [hpe] at he
      rw [hq] at hi
      exact h.tq (by omega) b (memq hi)
  · exact h.sameX (by unfold knowT; rw [if_neg hp]; split <;> rfl) (by unfold knowT; rw [if_neg hp]; split <;> rfl) (by unfold knowT; rw [if_neg hp]; split <;> rfl) (by unfold knowT; rw [if_neg hp]; split <;> rfl) (by unfold knowT; rw [if_neg hp]; split <;> rfl)
theorem InvD.ack (h : InvD v X Y bX bY sent told W) (s : SegT) : InvD v (ackT X s) Y bX bY sent told W := by
  unfold ackT; split
  · exact h.pop _
  · exact h
/-- A segment comes in at the one that tells. -/
theorem InvD.inX (h : InvD v X Y bX bY sent told W) {s : SegT} (hs : s.boot ≤ bY) : InvD v (inT X s).2.2 Y bX bY sent told W := by
  unfold inT
  split
  · exact h
  · split
    · exact h
    · have hk := (h.know hs).ack s
      split
      · exact hk
      · split
        · exact hk.sameX rfl rfl rfl rfl rfl
        · exact hk.sameX rfl rfl rfl rfl rfl
/-- What is waited for goes on. -/
theorem InvD.on (h : InvD v X Y bX bY sent told W) (hm : ∀ b s q : Int, ahd Y'.peer Y'.in0 Y'.next b s q → ahd Y.peer Y.in0 Y.next b s q) : InvD v X Y' bX bY sent told W :=
  ⟨h.lb, h.b1, h.pX, h.wb, h.wm, h.qm, h.qr, h.old, h.tq, h.tl, h.e1, h.e2, fun s hs hh ha hd => h.l1 s hs hh ha (hm _ _ _ hd), fun hp i b hi hd => h.l2 hp i b hi (hm _ _ _ hd)⟩
theorem ack_peer (X : LnT) (s : SegT) : (ackT X s).peer = X.peer ∧ (ackT X s).in0 = X.in0 ∧ (ackT X s).next = X.next ∧ (ackT X s).boot = X.boot := by unfold ackT; split <;> exact ⟨rfl, rfl, rfl, rfl⟩
theorem know_at (Y : LnT) (s : SegT) (hb : ¬ s.boot < Y.peer) : (knowT Y s).boot = Y.boot ∧ (knowT Y s).peer = s.boot ∧ Y.in0 ≤ (if Y.peer < s.boot then Y.in0 else (knowT Y s).in0) ∧ ∀ b t q : Int, ahd (knowT Y s).peer (knowT Y s).in0 (knowT Y s).next b t q → ahd Y.peer Y.in0 Y.next b t q := by
  unfold knowT
  by_cases hp : Y.peer < s.boot
  · rw [if_pos hp]
    split
    · refine ⟨rfl, rfl, by simp [hp], fun b t q h => ?_⟩
      unfold ahd at h ⊢
      have h : s.boot < b ∨ (s.boot = b ∧ (s.stream < t ∨ (s.stream = t ∧ 0 ≤ q))) := h
      exact .inl (by omega)
    · refine ⟨rfl, rfl, by simp [hp], fun b t q h => ?_⟩
      unfold ahd at h ⊢
      have h : s.boot < b ∨ (s.boot = b ∧ (s.stream < t ∨ (s.stream = t ∧ 0 ≤ q))) := h
      exact .inl (by omega)
  · rw [if_neg hp]
    split
    · rename_i hi
      refine ⟨rfl, by show Y.peer = s.boot; omega, by simp [hp]; omega, fun b t q h => ?_⟩
      unfold ahd at h ⊢
      have h : Y.peer < b ∨ (Y.peer = b ∧ (s.stream < t ∨ (s.stream = t ∧ 0 ≤ q))) := h
      omega
    · exact ⟨rfl, by omega, by simp [hp], fun b t q h => h⟩
/-- A segment of the way comes in at the one that is told. -/
theorem InvD.inY (h : InvD v X Y bX bY sent told W) {s : SegT} (hs : s ∈ W) (hY : Y.boot = bY) (hm : mayT s = true) :
    (inT Y s).2.1 = 0 ∧ (((inT Y s).1 = [] ∧ InvD v X (inT Y s).2.2 bX bY sent told W) ∨ ((inT Y s).1 = [s.body] ∧ told < v s.body ∧ v s.body ≤ sent ∧ InvD v X (inT Y s).2.2 bX bY sent (v s.body) W)) := by
  unfold inT
  rw [if_neg (by simp [hm])]
  by_cases hb : s.boot < Y.peer
  · rw [if_pos hb]; exact ⟨rfl, .inl ⟨rfl, h⟩⟩
  · rw [if_neg hb]
    obtain ⟨k1, k2, -, k4⟩ := know_at Y s hb
    obtain ⟨a1, a2, a3, a4⟩ := ack_peer (knowT Y s) s
    have hK : InvD v X (ackT (knowT Y s) s) bX bY sent told W := h.on (fun b t q hd => k4 b t q (by rw [a1, a2, a3] at hd; exact hd))
    have hp : (ackT (knowT Y s) s).peer = s.boot := by rw [a1]; exact k2
    obtain ⟨K, hKe⟩ : ∃ K, K = ackT (knowT Y s) s := ⟨_, rfl⟩
    rw [← hKe] at hK hp ⊢
    split
    · exact ⟨rfl, .inl ⟨rfl, hK⟩⟩
    · rename_i hh
      have hh : s.has = true := by simpa using hh
      split
      · rename_i hc
        obtain ⟨c1, c2, c3⟩ := hc
        have hab : s.ab = bY := by omega
        have hl : told < v s.body := hK.l1 s hs hh hab (by unfold ahd; omega)
        refine ⟨rfl, .inr ⟨rfl, hl, (hK.wm s hs hh).2, ?_⟩⟩
        have hsq := (hK.wm s hs hh)
        have htl := hK.tl
        refine ⟨hK.lb, hK.b1, hK.pX, hK.wb, hK.wm, hK.qm, hK.qr, hK.old, ?_, by omega, hK.e1, hK.e2, ?_, ?_⟩
        · intro hlt b hbq
          have h1 := hK.wb s hs
          refine hK.old s hs hh ?_ b hbq
          rcases Int.lt_trichotomy s.boot bX with k | k | k
          · exact k
          · have := h1.2.2 k; omega
          · omega
        · intro t ht hth hta hd
          have hd : ahd K.peer K.in0 (K.next + 1) t.boot t.stream t.seq := hd
          obtain ⟨f1, f2⟩ := hK.e1 s hs t ht hh hth hab hta
          unfold ahd at hd
          rcases hd with d | ⟨d, d2⟩
          · exact f1 (by omega)
          · obtain ⟨f3, f4⟩ := f2 (by omega)
            exact f4 (by omega)
        · intro hpe i b hi hd
          have hd : ahd K.peer K.in0 (K.next + 1) bX X.stream (X.first + i) := hd
          have h1 := hK.wb s hs
          unfold ahd at hd
          rcases Int.lt_trichotomy s.boot bX with k | k | k
          · exact hK.old s hs hh k b (memq hi)
          · obtain ⟨f1, f2, f3⟩ := hK.e2 hpe s hs hh hab k
            exact (f3 i b hi).1 (by omega)
          · omega
      · exact ⟨rfl, .inl ⟨rfl, hK.sameY rfl rfl rfl⟩⟩
end
end Go.Proofs.Ytpcbgkmnjmiigaa

/- catenalaw23: what two sides tell one another comes, in order, in eight rounds (pure). Conditions: none. -/
namespace Go.Proofs.Ytpcbgkmnjmiigaa
open Go.RowKit Go.PlainAid Go.Shelf
set_option linter.unusedVariables false
set_option linter.unusedSimpArgs false

theorem outT_form {L : LnT} (g : Bool) : ∀ s ∈ outT L g, OutF L s ∧ s.ast = L.in0 ∧ s.asq = L.next ∧ L.first ≤ s.seq ∧ s.seq ≤ L.first + L.q.length ∧ (s.has = true → s.seq < L.first + L.q.length) := by
  intro s hs
  unfold outT segsL at hs
  split at hs
  · split at hs
    · simp at hs; subst hs
      exact ⟨⟨rfl, rfl, rfl, fun h => by cases h⟩, rfl, rfl, by show L.first ≤ L.first; omega, by show L.first ≤ _; omega, fun h => by cases h⟩
    · simp at hs
  · unfold outsL eachL at hs
    simp only [List.mem_map, List.mem_range'_1] at hs
    obtain ⟨p, ⟨i, hi, rfl⟩, rfl⟩ := hs
    have hle := L.to_le
    have hl : i < L.q.length := by omega
    have hb : L.q[i]? = some (L.q.getD i ⟨#[]⟩) := by rw [List.getD_eq_getElem?_getD, List.getElem?_eq_getElem hl]; rfl
    exact ⟨⟨rfl, rfl, rfl, fun _ => ⟨i, hb, rfl⟩⟩, rfl, rfl, by show L.first ≤ L.first + (i : Int); omega, by show L.first + (i : Int) ≤ _; omega, fun _ => by show L.first + (i : Int) < _; omega⟩
/-- X tells Y; WY is on the way to Y, WX to X. -/
structure FInv (X Y : LnT) (bX bY : Int) (WY WX : List SegT) : Prop where
  p0 : X.peer = 0 → X.first = 0
  f2 : Y.peer = bX → Y.in0 ≤ X.stream
  fw : ∀ s ∈ WY, s.boot = bX → s.stream ≤ X.stream
  g2 : ∀ s ∈ WX, s.ab = bX → s.ast ≤ X.stream
  g1 : ∀ s ∈ WX, s.boot = bY → s.ab = bX → s.ast = X.stream → Y.peer = bX ∧ Y.in0 = X.stream ∧ s.asq ≤ Y.next
  f3 : X.peer = bY → 0 < X.first → Y.peer = bX ∧ Y.in0 = X.stream ∧ X.first ≤ Y.next
section
variable {X Y X' Y' : LnT} {bX bY : Int} {WY WX WY' WX' : List SegT} {s : SegT}
theorem FInv.way (h : FInv X Y bX bY WY WX) (hY : ∀ s ∈ WY', s ∈ WY ∨ s.stream = X.stream) (hX : ∀ s ∈ WX', s ∈ WX ∨ (s.ab = Y.peer ∧ s.ast = Y.in0 ∧ s.asq = Y.next)) : FInv X Y bX bY WY' WX' := by
  refine ⟨h.p0, h.f2, ?_, ?_, ?_, h.f3⟩
  · intro s hs hb
    rcases hY s hs with k | k
    · exact h.fw s k hb
    · omega
  · intro s hs ha
    rcases hX s hs with k | ⟨k1, k2, k3⟩
    · exact h.g2 s k ha
    · have := h.f2 (by omega); omega
  · intro s hs hb ha ht
    rcases hX s hs with k | ⟨k1, k2, k3⟩
    · exact h.g1 s k hb ha ht
    · exact ⟨by omega, by omega, by omega⟩
theorem FInv.sameX (h : FInv X Y bX bY WY WX) (h1 : X'.peer = X.peer) (h2 : X'.first = X.first) (h3 : X'.stream = X.stream) : FInv X' Y bX bY WY WX :=
  ⟨by rw [h1, h2]; exact h.p0, by rw [h3]; exact h.f2, by rw [h3]; exact h.fw, by rw [h3]; exact h.g2, by rw [h3]; exact h.g1, by rw [h1, h2, h3]; exact h.f3⟩
theorem FInv.upY (h : FInv X Y bX bY WY WX) (h1 : Y'.peer = bX → Y'.in0 ≤ X.stream) (h2 : Y.peer = bX → Y.in0 = X.stream → Y'.peer = bX ∧ Y'.in0 = X.stream ∧ Y.next ≤ Y'.next) : FInv X Y' bX bY WY WX := by
  refine ⟨h.p0, h1, h.fw, h.g2, fun s hs hb ha ht => ?_, fun hp hf => ?_⟩
  · obtain ⟨a, b, c⟩ := h.g1 s hs hb ha ht
    obtain ⟨d, e, f⟩ := h2 a b
    exact ⟨d, e, by omega⟩
  · obtain ⟨a, b, c⟩ := h.f3 hp hf
    obtain ⟨d, e, f⟩ := h2 a b
    exact ⟨d, e, by omega⟩
theorem FInv.sameY (h : FInv X Y bX bY WY WX) (h1 : Y'.peer = Y.peer) (h2 : Y'.in0 = Y.in0) (h3 : Y'.next = Y.next) : FInv X Y' bX bY WY WX :=
  h.upY (by rw [h1, h2]; exact h.f2) (fun a b => ⟨by rw [h1]; exact a, by rw [h2]; exact b, by rw [h3]; exact Int.le_refl _⟩)
theorem FInv.knowX (h : FInv X Y bX bY WY WX) (hb : ¬ s.boot < X.peer) (hs1 : 1 ≤ s.boot) : FInv (knowT X s) Y bX bY WY WX ∧ (knowT X s).peer = s.boot := by
  unfold knowT
  by_cases hp : X.peer < s.boot
  · rw [if_pos hp]
    split
    · rename_i h0
      exact ⟨⟨fun e => by have e : s.boot = 0 := e; omega, h.f2, h.fw, h.g2, h.g1, fun _ hf => by have := h.p0 h0; have hf : 0 < X.first := hf; omega⟩, rfl⟩
    · refine ⟨⟨fun e => by have e : s.boot = 0 := e; omega, fun e => ?_, fun t ht e => ?_, fun t ht e => ?_, fun t ht _ e1 e2 => ?_, fun _ hf => ?_⟩, rfl⟩
      · have := h.f2 e; show Y.in0 ≤ X.stream + 1; omega
      · have := h.fw t ht e; show t.stream ≤ X.stream + 1; omega
      · have := h.g2 t ht e; show t.ast ≤ X.stream + 1; omega
      · have := h.g2 t ht e1; have e2 : t.ast = X.stream + 1 := e2; omega
      · have hf : (0 : Int) < 0 := hf; omega
  · rw [if_neg hp]
    split
    · exact ⟨h.sameX rfl rfl rfl, by show X.peer = s.boot; omega⟩
    · exact ⟨h, by omega⟩
theorem FInv.ackX (h : FInv X Y bX bY WY WX) (hs : s ∈ WX) (hp : X.peer = s.boot) (hX : X.boot = bX) (hs1 : 1 ≤ s.boot) : FInv (ackT X s) Y bX bY WY WX := by
  unfold ackT
  split
  · rename_i hc
    obtain ⟨c1, c2⟩ := hc
    have hgd : goneN X s.asq = min (s.asq - X.first).toNat X.q.length := rfl
    refine ⟨fun e => ?_, h.f2, h.fw, h.g2, h.g1, fun e hf => ?_⟩
    · have e : X.peer = 0 := e; omega
    · have e : X.peer = bY := e
      obtain ⟨a, b, c⟩ := h.g1 s hs (by omega) (by omega) c2
      refine ⟨a, b, ?_⟩
      have hf : 0 < X.first + (goneN X s.asq : Int) := hf
      show X.first + (goneN X s.asq : Int) ≤ Y.next
      by_cases hl : s.asq ≤ X.first
      · have : goneN X s.asq = 0 := by omega
        have := (h.f3 e (by omega)).2.2
        omega
      · omega
  · exact h
theorem FInv.inX (h : FInv X Y bX bY WY WX) (hs : s ∈ WX) (hX : X.boot = bX) : FInv (inT X s).2.2 Y bX bY WY WX := by
  unfold inT
  split
  · exact h
  · rename_i hm
    have hs1 : 0 ≤ s.boot ∧ s.boot ≠ 0 := by have := mayT_iff.1 (by simpa using hm); exact ⟨this.1.1, this.2.2.2.2.2.2⟩
    split
    · exact h
    · rename_i hb
      obtain ⟨k1, k2⟩ := h.knowX hb (by omega)
      have k3 := (know_at X s hb).1
      have k := k1.ackX hs k2 (by omega) (by omega)
      split
      · exact k
      · split
        · exact k.sameX rfl rfl rfl
        · exact k.sameX rfl rfl rfl
theorem FInv.inY (h : FInv X Y bX bY WY WX) (hs : s ∈ WY) (hb : s.boot ≤ bX) : FInv X (inT Y s).2.2 bX bY WY WX := by
  unfold inT
  split
  · exact h
  · split
    · exact h
    · rename_i hb2
      obtain ⟨a1, a2, a3, a4⟩ := ack_peer (knowT Y s) s
      have k0 := (know_at Y s hb2).2.1
      have kin : Y.in0 = X.stream → Y.peer = bX → knowT Y s = Y := fun e1 e2 => by
        have hw := h.fw s hs (by omega)
        unfold knowT; rw [if_neg (by omega), if_neg (by omega)]
      have hf2 : (knowT Y s).peer = bX → (knowT Y s).in0 ≤ X.stream := fun e => by
        have hsb : s.boot = bX := by omega
        have hw := h.fw s hs hsb
        unfold knowT
        split
        · split <;> exact hw
        · split
          · exact hw
          · exact h.f2 (by omega)
      have hK : FInv X (knowT Y s) bX bY WY WX := h.upY hf2 (fun e1 e2 => by rw [kin e2 e1]; exact ⟨e1, e2, Int.le_refl _⟩)
      have hA : FInv X (ackT (knowT Y s) s) bX bY WY WX := hK.sameY a1 a2 a3
      split
      · exact hA
      · split
        · exact hA.upY hA.f2 (fun e1 e2 => ⟨e1, e2, by show _ ≤ _ + 1; omega⟩)
        · exact hA.sameY rfl rfl rfl
end
def recv (L : LnT) (l : List SegT) : LnT := l.foldl (fun L s => (inT L s).2.2) L
theorem recv_snoc (L : LnT) (l : List SegT) (s : SegT) : recv L (l ++ [s]) = (inT (recv L l) s).2.2 := by unfold recv; rw [List.foldl_append]; rfl
section
variable {X Y L : LnT} {s : SegT} {a t n bY : Int}
theorem inT_core (hm : mayT s = true) (hb : ¬ s.boot < L.peer) : (inT L s).2.2.boot = (ackT (knowT L s) s).boot ∧ (inT L s).2.2.stream = (ackT (knowT L s) s).stream ∧ (inT L s).2.2.first = (ackT (knowT L s) s).first ∧ (inT L s).2.2.q = (ackT (knowT L s) s).q ∧ (inT L s).2.2.peer = (ackT (knowT L s) s).peer := by
  unfold inT
  rw [if_neg (by simp [hm]), if_neg hb]
  split
  · exact ⟨rfl, rfl, rfl, rfl, rfl⟩
  · split <;> exact ⟨rfl, rfl, rfl, rfl, rfl⟩
theorem ack_len (L : LnT) (s : SegT) : (ackT L s).q.length ≤ L.q.length ∧ (ackT L s).stream = L.stream ∧ (ackT L s).first + ((ackT L s).q.length : Int) = L.first + (L.q.length : Int) ∧ L.first ≤ (ackT L s).first ∧ (s.ab = L.boot → s.ast = L.stream → min s.asq (L.first + (L.q.length : Int)) ≤ (ackT L s).first) := by
  unfold ackT
  split
  · have hg := goneN_le L s.asq
    have hgd : goneN L s.asq = min (s.asq - L.first).toNat L.q.length := rfl
    have h1 : (popT L s.asq).q.length = L.q.length - goneN L s.asq := by show (L.q.drop (goneN L s.asq)).length = _; rw [List.length_drop]
    have h2 : (popT L s.asq).first = L.first + (goneN L s.asq : Int) := rfl
    refine ⟨by omega, rfl, by omega, by omega, fun _ _ => by omega⟩
  · rename_i hc
    exact ⟨Nat.le_refl _, rfl, rfl, Int.le_refl _, fun h1 h2 => absurd ⟨h1, h2⟩ hc⟩
theorem inX_step (hm : mayT s = true) (hp : X.peer ≤ s.boot) : (inT X s).2.2.peer = s.boot ∧ (inT X s).2.2.boot = X.boot ∧ (inT X s).2.2.q.length ≤ X.q.length := by
  obtain ⟨c1, c2, c3, c4, c5⟩ := inT_core (L := X) hm (by omega)
  obtain ⟨a1, a2, a3, a4⟩ := ack_peer (knowT X s) s
  obtain ⟨k1, k2, -, -⟩ := know_at X s (by omega)
  have hq : (knowT X s).q = X.q := by unfold knowT; split <;> split <;> rfl
  have hl := (ack_len (knowT X s) s).1
  rw [hq] at hl
  exact ⟨by rw [c5, a1, k2], by rw [c1, a4, k1], by rw [c4]; exact hl⟩
theorem inX_at (hm : mayT s = true) (hp : X.peer = s.boot) : (inT X s).2.2.stream = X.stream ∧ (inT X s).2.2.first + ((inT X s).2.2.q.length : Int) = X.first + (X.q.length : Int) ∧ X.first ≤ (inT X s).2.2.first ∧ (s.ab = X.boot → s.ast = X.stream → min s.asq (X.first + (X.q.length : Int)) ≤ (inT X s).2.2.first) := by
  obtain ⟨c1, c2, c3, c4, c5⟩ := inT_core (L := X) hm (by omega)
  have hK : (knowT X s).stream = X.stream ∧ (knowT X s).first = X.first ∧ (knowT X s).q = X.q ∧ (knowT X s).boot = X.boot := by
    unfold knowT; rw [if_neg (by omega)]; split <;> exact ⟨rfl, rfl, rfl, rfl⟩
  obtain ⟨k1, k2, k3, k4⟩ := hK
  obtain ⟨l1, l2, l3, l4, l5⟩ := ack_len (knowT X s) s
  rw [k1, k2, k3, k4] at l5
  rw [k2, k3] at l3
  rw [k2] at l4
  rw [k1] at l2
  exact ⟨by rw [c2, l2], by rw [c3, c4, l3], by rw [c3]; exact l4, fun h1 h2 => by rw [c3]; exact l5 h1 h2⟩
theorem recvX_all (l : List SegT) (X : LnT) (hl : ∀ s ∈ l, mayT s = true ∧ s.boot = bY) (hp : X.peer ≤ bY) : (recv X l).boot = X.boot ∧ (recv X l).q.length ≤ X.q.length ∧ (recv X l).peer ≤ bY ∧ (l ≠ [] → (recv X l).peer = bY) := by
  induction l generalizing X with
  | nil => exact ⟨rfl, Nat.le_refl _, hp, fun h => absurd rfl h⟩
  | cons s l ih =>
    obtain ⟨m1, m2⟩ := hl s (by simp)
    obtain ⟨s1, s2, s3⟩ := inX_step (X := X) m1 (by omega)
    have e : recv X (s :: l) = recv (inT X s).2.2 l := rfl
    obtain ⟨i1, i2, i3, i4⟩ := ih (inT X s).2.2 (fun t ht => hl t (by simp [ht])) (by omega)
    rw [e]
    refine ⟨by rw [i1, s2], by omega, i3, fun _ => ?_⟩
    by_cases hn : l = []
    · subst hn; show (inT X s).2.2.peer = bY; omega
    · exact i4 hn
theorem recvX_at (l : List SegT) (X : LnT) (hl : ∀ s ∈ l, mayT s = true ∧ s.boot = bY ∧ s.ab = a ∧ s.ast = t ∧ s.asq = n) (hp : X.peer = bY) : (recv X l).stream = X.stream ∧ (recv X l).first + ((recv X l).q.length : Int) = X.first + (X.q.length : Int) ∧ X.first ≤ (recv X l).first ∧ (l ≠ [] → a = X.boot → t = X.stream → min n (X.first + (X.q.length : Int)) ≤ (recv X l).first) := by
  induction l generalizing X with
  | nil => exact ⟨rfl, rfl, Int.le_refl _, fun h => absurd rfl h⟩
  | cons s l ih =>
    obtain ⟨m1, m2, m3, m4, m5⟩ := hl s (by simp)
    obtain ⟨s1, s2, s3⟩ := inX_step (X := X) m1 (by omega)
    obtain ⟨t1, t2, t3, t4⟩ := inX_at (X := X) m1 (by omega)
    have e : recv X (s :: l) = recv (inT X s).2.2 l := rfl
    obtain ⟨i1, i2, i3, i4⟩ := ih (inT X s).2.2 (fun t ht => hl t (by simp [ht])) (by omega)
    rw [e]
    refine ⟨by rw [i1, t1], by omega, by omega, fun _ h1 h2 => ?_⟩
    have := t4 (by omega) (by omega)
    omega
theorem inY_step (hm : mayT s = true) (hh : s.has = true) (hp : Y.peer ≤ s.boot) : (inT Y s).2.2.peer = s.boot ∧ (inT Y s).2.2.owes = true ∧ (inT Y s).2.2.boot = Y.boot := by
  obtain ⟨s1, s2, -⟩ := inX_step (X := Y) hm hp
  refine ⟨s1, ?_, s2⟩
  unfold inT
  rw [if_neg (by simp [hm]), if_neg (by omega), if_neg (by simp [hh])]
  split <;> rfl
theorem inY_sync (hm : mayT s = true) (hh : s.has = true) (hp : Y.peer ≤ s.boot) (hab : s.ab = Y.boot) (h2 : Y.peer = s.boot → Y.in0 ≤ s.stream) (h3 : Y.peer = s.boot → Y.in0 = s.stream → s.seq ≤ Y.next) (h4 : ¬ (Y.peer = s.boot ∧ Y.in0 = s.stream) → s.seq ≤ 0) : (inT Y s).2.2.in0 = s.stream ∧ s.seq + 1 ≤ (inT Y s).2.2.next := by
  have hK : (knowT Y s).in0 = s.stream ∧ s.seq ≤ (knowT Y s).next := by
    unfold knowT
    split
    · split <;> exact ⟨rfl, h4 (by omega)⟩
    · have h2' := h2 (by omega)
      split
      · exact ⟨rfl, h4 (by omega)⟩
      · exact ⟨by omega, h3 (by omega) (by omega)⟩
  obtain ⟨a1, a2, a3, a4⟩ := ack_peer (knowT Y s) s
  rw [← a2, ← a3] at hK
  obtain ⟨K, hKe⟩ : ∃ K, K = ackT (knowT Y s) s := ⟨_, rfl⟩
  unfold inT
  rw [if_neg (by simp [hm]), if_neg (by omega), if_neg (by simp [hh]), ← hKe]
  rw [← hKe] at hK
  obtain ⟨q1, q2⟩ := hK
  split
  · exact ⟨q1, by show s.seq + 1 ≤ K.next + 1; omega⟩
  · rename_i hc
    refine ⟨q1, ?_⟩
    show s.seq + 1 ≤ K.next
    by_cases he : s.seq = K.next
    · exact absurd ⟨hab, by omega, he⟩ hc
    · omega
theorem outs_succ (L : LnT) (k : Nat) : outsL L 0 (k + 1) = outsL L 0 k ++ [L.seg (L.first + (k : Int)) true (L.q.getD k ⟨#[]⟩)] := by
  unfold outsL eachL
  simp only [Nat.sub_zero]
  rw [List.range'_1_concat, List.map_append, List.map_append]
  simp
theorem outs_mem (L : LnT) (k i : Nat) (h : i < k) : L.seg (L.first + (i : Int)) true (L.q.getD i ⟨#[]⟩) ∈ outsL L 0 k := by
  unfold outsL eachL
  simp only [Nat.sub_zero, List.map_map, List.mem_map, List.mem_range'_1]
  exact ⟨i, by omega, rfl⟩
theorem outT_some (h : L.q ≠ []) : outT L true = outsL L 0 L.to ∧ 1 ≤ L.to := by
  have hl : 0 < L.q.length := List.length_pos_iff.2 h
  have ht : 1 ≤ L.to := by unfold LnT.to; omega
  refine ⟨?_, ht⟩
  unfold outT segsL LnT.fr
  rw [if_pos rfl, if_neg (by omega)]
theorem outT_any (h : L.q ≠ [] ∨ L.owes = true) : outT L true ≠ [] := by
  by_cases hq : L.q = []
  · have ho : L.owes = true := by rcases h with h | h; exact absurd hq h; exact h
    have ht : L.to = 0 := by unfold LnT.to; rw [hq]; simp
    unfold outT segsL LnT.fr
    rw [if_pos rfl, if_pos (by omega), if_pos ho]
    exact List.cons_ne_nil _ _
  · obtain ⟨e, h1⟩ := outT_some hq
    rw [e]
    exact List.ne_nil_of_mem (outs_mem L L.to 0 (by omega))
/-- What X tells comes to Y. -/
theorem tell (X Y : LnT) (hp : Y.peer ≤ X.boot) (k : Nat) (hk : ∀ i : Nat, i < k → mayT (X.seg (X.first + (i : Int)) true (X.q.getD i ⟨#[]⟩)) = true) :
    (recv Y (outsL X 0 k)).boot = Y.boot ∧ (k = 0 → recv Y (outsL X 0 k) = Y) ∧ (0 < k → (recv Y (outsL X 0 k)).peer = X.boot ∧ (recv Y (outsL X 0 k)).owes = true) := by
  induction k with
  | zero => exact ⟨rfl, fun _ => rfl, fun h => absurd h (by omega)⟩
  | succ k ih =>
    obtain ⟨i1, i2, i3⟩ := ih (fun i hi => hk i (by omega))
    rw [outs_succ, recv_snoc]
    have hpk : (recv Y (outsL X 0 k)).peer ≤ X.boot := by
      by_cases h0 : k = 0
      · rw [i2 h0]; exact hp
      · have := (i3 (by omega)).1; omega
    obtain ⟨s1, s2, s3⟩ := inY_step (Y := recv Y (outsL X 0 k)) (hk k (by omega)) rfl hpk
    exact ⟨by rw [s3, i1], fun h => absurd h (by omega), fun _ => ⟨s1, s2⟩⟩
theorem tell_sync (X Y : LnT) (hp : Y.peer ≤ X.boot) (hX : X.peer = Y.boot) (h2 : Y.peer = X.boot → Y.in0 ≤ X.stream) (h3 : 0 < X.first → Y.peer = X.boot ∧ Y.in0 = X.stream ∧ X.first ≤ Y.next) (hn : 0 ≤ Y.next) (k : Nat) (hk : ∀ i : Nat, i < k → mayT (X.seg (X.first + (i : Int)) true (X.q.getD i ⟨#[]⟩)) = true) :
    0 < k → (recv Y (outsL X 0 k)).in0 = X.stream ∧ X.first + (k : Int) ≤ (recv Y (outsL X 0 k)).next := by
  induction k with
  | zero => intro h; omega
  | succ k ih =>
    intro _
    obtain ⟨i1, i2, i3⟩ := tell X Y hp k (fun i hi => hk i (by omega))
    rw [outs_succ, recv_snoc]
    by_cases h0 : k = 0
    · subst h0
      rw [i2 rfl]
      obtain ⟨q1, q2⟩ := inY_sync (Y := Y) (hk 0 (by omega)) rfl hp hX h2 (fun e1 e2 => by
        show X.first + ((0 : Nat) : Int) ≤ Y.next
        by_cases hf : 0 < X.first
        · have := (h3 hf).2.2; omega
        · omega) (fun hc => by
        show X.first + ((0 : Nat) : Int) ≤ 0
        by_cases hf : 0 < X.first
        · obtain ⟨e1, e2, -⟩ := h3 hf; exact absurd ⟨e1, e2⟩ hc
        · omega)
      exact ⟨q1, by have q2 : X.first + ((0 : Nat) : Int) + 1 ≤ _ := q2; omega⟩
    · obtain ⟨j1, j2⟩ := ih (fun i hi => hk i (by omega)) (by omega)
      have j3 := (i3 (by omega)).1
      obtain ⟨q1, q2⟩ := inY_sync (Y := recv Y (outsL X 0 k)) (hk k (by omega)) rfl (by rw [j3]; exact Int.le_refl _) (by rw [i1]; exact hX) (fun _ => by rw [j1]; exact Int.le_refl _) (fun _ _ => j2) (fun hc => absurd ⟨j3, j1⟩ hc)
      exact ⟨q1, by have q2 : X.first + (k : Int) + 1 ≤ _ := q2; omega⟩
end
/-- One side behind a round. -/
def nx (X Y : LnT) : LnT := recv (outN X) (outT Y true)
/-- What holds ahead of a round; X tells Y. -/
structure RI (X Y : LnT) : Prop where
  pY : Y.peer ≤ X.boot
  pX : X.peer ≤ Y.boot
  f2 : Y.peer = X.boot → Y.in0 ≤ X.stream
  f3 : X.peer = Y.boot → 0 < X.first → Y.peer = X.boot ∧ Y.in0 = X.stream ∧ X.first ≤ Y.next
  n0 : 0 ≤ Y.next
  fx : 0 ≤ X.first
  len : X.q.length ≤ 8
  mX : ∀ s ∈ outT X true, mayT s = true
  mY : ∀ s ∈ outT Y true, mayT s = true
section
variable {X Y : LnT} {T a c : Int}
theorem RI.segs (h : RI X Y) : ∀ s ∈ outT Y true, mayT s = true ∧ s.boot = Y.boot ∧ s.ab = Y.peer ∧ s.ast = Y.in0 ∧ s.asq = Y.next := fun s hs => by
  obtain ⟨⟨f1, f2, f3, f4⟩, f5, f6, -⟩ := outT_form true s hs
  exact ⟨h.mY s hs, f1, f3, f5, f6⟩
theorem RI.nxX (h : RI X Y) : (nx X Y).boot = X.boot ∧ (nx X Y).q.length ≤ X.q.length ∧ (outT Y true ≠ [] → (nx X Y).peer = Y.boot) := by
  obtain ⟨i1, i2, i3, i4⟩ := recvX_all (bY := Y.boot) (outT Y true) (outN X) (fun s hs => ⟨(h.segs s hs).1, (h.segs s hs).2.1⟩) h.pX
  exact ⟨i1, i2, i4⟩
theorem RI.nxq (h : RI X Y) (hq : X.q = []) : (nx X Y).q = [] := List.length_eq_zero_iff.1 (by have := h.nxX.2.1; rw [hq] at this; simpa using this)
theorem RI.q (h : RI X Y) (hq : (nx X Y).q ≠ []) : X.q ≠ [] := fun e => hq (h.nxq e)
theorem RI.nxY (h : RI X Y) (hq : X.q ≠ []) : (nx Y X).peer = X.boot ∧ (nx Y X).owes = true ∧ (X.peer = Y.boot → (nx Y X).in0 = X.stream ∧ X.first + (X.to : Int) ≤ (nx Y X).next) := by
  obtain ⟨e, h1⟩ := outT_some hq
  have hm : ∀ i : Nat, i < X.to → mayT (X.seg (X.first + (i : Int)) true (X.q.getD i ⟨#[]⟩)) = true := fun i hi => h.mX _ (by rw [e]; exact outs_mem X X.to i hi)
  have ht := tell X (outN Y) h.pY X.to hm
  have e2 : nx Y X = recv (outN Y) (outsL X 0 X.to) := by unfold nx; rw [e]
  rw [e2]
  refine ⟨(ht.2.2 (by omega)).1, (ht.2.2 (by omega)).2, fun hX => ?_⟩
  exact tell_sync X (outN Y) h.pY hX h.f2 (h.f3 hX) h.n0 X.to hm (by omega)
def G1 (X Y : LnT) : Prop := X.q = [] ∨ (Y.peer = X.boot ∧ Y.owes = true)
def G2 (X Y : LnT) (T a c : Int) : Prop := X.q = [] ∨ (Y.peer = X.boot ∧ Y.owes = true ∧ X.peer = Y.boot ∧ X.first + (X.q.length : Int) = T ∧ a ≤ X.first ∧ (c ≤ 0 ∨ (Y.in0 = X.stream ∧ c ≤ Y.next)))
theorem RI.rd0 (h : RI X Y) : G1 (nx X Y) (nx Y X) := by
  by_cases hq : (nx X Y).q = []
  · exact .inl hq
  · obtain ⟨a1, a2, -⟩ := h.nxY (h.q hq)
    exact .inr ⟨by rw [a1, h.nxX.1], a2⟩
theorem nx_boot (h : RI X Y) : (nx Y X).boot = Y.boot := by
  obtain ⟨i1, i2, i3, i4⟩ := recvX_all (bY := X.boot) (outT X true) (outN Y) (fun s hs => ⟨h.mX s hs, (outT_form true s hs).1.1⟩) h.pY
  exact i1
theorem RI.rd1 (h : RI X Y) (hl : (nx X Y).q.length ≤ 8) (hg : G1 X Y) : ∃ T a : Int, T ≤ a + 8 ∧ G2 (nx X Y) (nx Y X) T a 0 := by
  refine ⟨(nx X Y).first + ((nx X Y).q.length : Int), (nx X Y).first, by omega, ?_⟩
  by_cases hq : (nx X Y).q = []
  · exact .inl hq
  · have hq0 := h.q hq
    rcases hg with hg | ⟨g1, g2⟩
    · exact absurd hg hq0
    · obtain ⟨a1, a2, -⟩ := h.nxY hq0
      exact .inr ⟨by rw [a1, h.nxX.1], a2, by rw [h.nxX.2.2 (outT_any (.inr g2)), nx_boot h], rfl, Int.le_refl _, .inl (Int.le_refl _)⟩
theorem RI.rd2 (h : RI X Y) (hg : G2 X Y T a c) : G2 (nx X Y) (nx Y X) T (max a (min T c)) (min T (a + 4)) := by
  by_cases hq : (nx X Y).q = []
  · exact .inl hq
  · have hq0 := h.q hq
    have hfx := h.fx
    rcases hg with hg | ⟨g1, g2, g3, g4, g5, g6⟩
    · exact absurd hg hq0
    · obtain ⟨a1, a2, a3⟩ := h.nxY hq0
      obtain ⟨a4, a5⟩ := a3 g3
      obtain ⟨r1, r2, r3, r4⟩ := recvX_at (bY := Y.boot) (a := Y.peer) (t := Y.in0) (n := Y.next) (outT Y true) (outN X) h.segs g3
      have r1 : (nx X Y).stream = X.stream := r1
      have r2 : (nx X Y).first + ((nx X Y).q.length : Int) = X.first + (X.q.length : Int) := r2
      have r3 : X.first ≤ (nx X Y).first := r3
      have r4 : outT Y true ≠ [] → Y.peer = X.boot → Y.in0 = X.stream → min Y.next (X.first + (X.q.length : Int)) ≤ (nx X Y).first := r4
      have hto : (X.to : Int) = min 4 (X.q.length : Int) := by unfold LnT.to; omega
      refine .inr ⟨by rw [a1, h.nxX.1], a2, by rw [h.nxX.2.2 (outT_any (.inr g2)), nx_boot h], by omega, ?_, .inr ⟨by rw [a4, r1], by omega⟩⟩
      rcases g6 with g6 | ⟨g6, g7⟩
      · omega
      · have := r4 (outT_any (.inr g2)) g1 g6; omega
theorem G2.weak {a' c' : Int} (h : G2 X Y T a c) (ha : a' ≤ a) (hc : c' ≤ c) : G2 X Y T a' c' := by
  rcases h with h | ⟨g1, g2, g3, g4, g5, g6⟩
  · exact .inl h
  · refine .inr ⟨g1, g2, g3, g4, by omega, ?_⟩
    rcases g6 with g6 | ⟨g6, g7⟩
    · exact .inl (by omega)
    · exact .inr ⟨g6, by omega⟩
/-- Eight rounds. -/
theorem eight {X Y : Nat → LnT} (hR : ∀ k, k < 8 → RI (X k) (Y k)) (hx : ∀ k, k < 8 → X (k + 1) = nx (X k) (Y k)) (hy : ∀ k, k < 8 → Y (k + 1) = nx (Y k) (X k)) : (X 8).q = [] := by
  have g1 : G1 (X 1) (Y 1) := by rw [hx 0 (by omega), hy 0 (by omega)]; exact (hR 0 (by omega)).rd0
  obtain ⟨T, a, hT, g2⟩ := (hR 1 (by omega)).rd1 (by rw [← hx 1 (by omega)]; exact (hR 2 (by omega)).len) g1
  rw [← hx 1 (by omega), ← hy 1 (by omega)] at g2
  have g3 := (hR 2 (by omega)).rd2 g2
  rw [← hx 2 (by omega), ← hy 2 (by omega)] at g3
  have g4 := (hR 3 (by omega)).rd2 g3
  rw [← hx 3 (by omega), ← hy 3 (by omega)] at g4
  have g5 := (hR 4 (by omega)).rd2 (g4.weak (a' := min T (a + 4)) (c' := min T (a + 4)) (by omega) (by omega))
  rw [← hx 4 (by omega), ← hy 4 (by omega)] at g5
  have g6 := (hR 5 (by omega)).rd2 g5
  rw [← hx 5 (by omega), ← hy 5 (by omega)] at g6
  have h6 : (X 6).q = [] := by
    rcases g6 with g6 | ⟨_, _, _, q4, q5, _⟩
    · exact g6
    · exact List.length_eq_zero_iff.1 (by have : ((X (5 + 1)).q.length : Int) = ((X 6).q.length : Int) := rfl; omega)
  rw [hx 7 (by omega)]
  refine (hR 7 (by omega)).nxq ?_
  rw [hx 6 (by omega)]
  exact (hR 6 (by omega)).nxq h6
end

theorem inT_atm (Y : LnT) (s : SegT) : (inT Y s).1.length ≤ 1 := by
  unfold inT; split
  · simp
  · split
    · simp
    · split
      · simp
      · split <;> simp
theorem know_next (Y : LnT) (s : SegT) : (knowT Y s).next = Y.next ∨ (knowT Y s).next = 0 := by
  unfold knowT; split
  · split <;> exact .inr rfl
  · split
    · exact .inr rfl
    · exact .inl rfl
theorem inT_next (Y : LnT) (s : SegT) : (inT Y s).2.2.next = Y.next ∨ (inT Y s).2.2.next = 0 ∨ ((inT Y s).1 ≠ [] ∧ ((inT Y s).2.2.next = Y.next + 1 ∨ (inT Y s).2.2.next = 1)) := by
  have k := know_next Y s
  have a := (ack_peer (knowT Y s) s).2.2.1
  unfold inT; split
  · exact .inl rfl
  · split
    · exact .inl rfl
    · split
      · show (ackT (knowT Y s) s).next = _ ∨ (ackT (knowT Y s) s).next = _ ∨ _
        rcases k with k | k
        · exact .inl (a.trans k)
        · exact .inr (.inl (a.trans k))
      · split
        · refine .inr (.inr ⟨by simp, ?_⟩)
          show (ackT (knowT Y s) s).next + 1 = _ ∨ (ackT (knowT Y s) s).next + 1 = _
          omega
        · show (ackT (knowT Y s) s).next = _ ∨ (ackT (knowT Y s) s).next = _ ∨ _
          rcases k with k | k
          · exact .inl (a.trans k)
          · exact .inr (.inl (a.trans k))

/-- Without a start anew: what is told is what was sent. -/
structure UL (X Y : LnT) (sent told : List ByteArray) (WY : List SegT) : Prop where
  bx : X.boot = 1
  st : X.stream = 1
  pr : X.peer = 0 ∨ X.peer = 1
  sw : ∀ s ∈ WY, s.boot = 1 ∧ s.stream = 1
  fx : 0 ≤ X.first
  u1 : X.first + X.q.length = sent.length
  u2 : ∀ (i : Nat) (b : ByteArray), X.q[i]? = some b → sent[(X.first + i).toNat]? = some b
  u3 : ∀ s ∈ WY, s.has = true → 0 ≤ s.seq ∧ sent[s.seq.toNat]? = some s.body
  u4 : told = sent.take Y.next.toNat ∧ 0 ≤ Y.next
  u5 : (Y.peer = 0 ∧ Y.next = 0) ∨ (Y.peer = 1 ∧ Y.in0 = 1)
section
variable {X Y X' Y' : LnT} {sent told : List ByteArray} {WY WY' : List SegT} {s : SegT}
theorem UL.way (h : UL X Y sent told WY) (hY : ∀ s ∈ WY', s ∈ WY ∨ OutF X s) : UL X Y sent told WY' := by
  have hst := h.st; have hbx := h.bx
  refine ⟨h.bx, h.st, h.pr, fun s hs => ?_, h.fx, h.u1, h.u2, fun s hs hh => ?_, h.u4, h.u5⟩
  · rcases hY s hs with k | ⟨k1, k2, k3, k4⟩
    · exact h.sw s k
    · exact ⟨by omega, by omega⟩
  · rcases hY s hs with k | ⟨k1, k2, k3, k4⟩
    · exact h.u3 s k hh
    · obtain ⟨i, hi, hi2⟩ := k4 hh
      have := h.fx
      exact ⟨by omega, by rw [hi2]; exact h.u2 i _ hi⟩
theorem UL.sameX (h : UL X Y sent told WY) (h0 : X'.boot = X.boot) (h1 : X'.peer = X.peer) (h2 : X'.stream = X.stream) (h3 : X'.first = X.first) (h4 : X'.q = X.q) : UL X' Y sent told WY :=
  ⟨by rw [h0]; exact h.bx, by rw [h2]; exact h.st, by rw [h1]; exact h.pr, h.sw, by rw [h3]; exact h.fx, by rw [h3, h4]; exact h.u1, by rw [h3, h4]; exact h.u2, h.u3, h.u4, h.u5⟩
theorem UL.sameY (h : UL X Y sent told WY) (h1 : Y'.peer = Y.peer) (h2 : Y'.in0 = Y.in0) (h3 : Y'.next = Y.next) : UL X Y' sent told WY :=
  ⟨h.bx, h.st, h.pr, h.sw, h.fx, h.u1, h.u2, h.u3, by rw [h3]; exact h.u4, by rw [h1, h2, h3]; exact h.u5⟩
theorem UL.send {b : ByteArray} (h : UL X Y sent told WY) (hn : Y.next ≤ sent.length) : UL { X with q := X.q ++ [b] } Y (sent ++ [b]) told WY := by
  have h1 := h.u1; have hf := h.fx; have h4 := h.u4
  refine ⟨h.bx, h.st, h.pr, h.sw, h.fx, ?_, fun i a hi => ?_, fun s hs hh => ?_, ⟨?_, h4.2⟩, h.u5⟩
  · show X.first + ((X.q ++ [b]).length : Int) = ((sent ++ [b]).length : Int)
    rw [List.length_append, List.length_append]; simp; omega
  · have hi : (X.q ++ [b])[i]? = some a := hi
    show (sent ++ [b])[(X.first + (i : Int)).toNat]? = some a
    by_cases hl : i < X.q.length
    · rw [List.getElem?_append_left hl] at hi
      rw [List.getElem?_append_left (by omega)]
      exact h.u2 i a hi
    · rw [List.getElem?_append_right (by omega)] at hi
      rw [List.getElem?_append_right (by omega), show (X.first + (i : Int)).toNat - sent.length = i - X.q.length by omega]
      exact hi
  · have := h.u3 s hs hh
    refine ⟨this.1, ?_⟩
    have hl := (List.getElem?_eq_some_iff.1 this.2).1
    rw [List.getElem?_append_left hl]; exact this.2
  · rw [List.take_append_of_le_length (by omega)]; exact h4.1
theorem UL.pop (h : UL X Y sent told WY) (n : Int) : UL (popT X n) Y sent told WY := by
  have hg := goneN_le X n
  have h1 := h.u1; have hf := h.fx
  refine ⟨h.bx, h.st, h.pr, h.sw, ?_, ?_, fun i a hi => ?_, h.u3, h.u4, h.u5⟩
  · show 0 ≤ X.first + (goneN X n : Int); omega
  · show X.first + (goneN X n : Int) + ((X.q.drop (goneN X n)).length : Int) = sent.length
    rw [List.length_drop]; omega
  · have hi : (X.q.drop (goneN X n))[i]? = some a := hi
    rw [List.getElem?_drop] at hi
    have := h.u2 _ a hi
    rw [show (X.first + ((goneN X n + i : Nat) : Int)).toNat = (X.first + (goneN X n : Int) + (i : Int)).toNat by omega] at this
    exact this
theorem UL.inX (h : UL X Y sent told WY) (hs : s.boot = 1) : UL (inT X s).2.2 Y sent told WY := by
  unfold inT
  split
  · exact h
  · split
    · exact h
    · have hK : UL (knowT X s) Y sent told WY := by
        unfold knowT
        split
        · rename_i hp
          have h0 : X.peer = 0 := by have := h.pr; omega
          rw [if_pos h0]
          exact ⟨h.bx, h.st, .inr hs, h.sw, h.fx, h.u1, h.u2, h.u3, h.u4, h.u5⟩
        · split
          · exact h.sameX rfl rfl rfl rfl rfl
          · exact h
      have hA : UL (ackT (knowT X s) s) Y sent told WY := by
        unfold ackT
        split
        · exact hK.pop _
        · exact hK
      split
      · exact hA
      · split
        · exact hA.sameX rfl rfl rfl rfl rfl
        · exact hA.sameX rfl rfl rfl rfl rfl
theorem UL.inY (h : UL X Y sent told WY) (hs : s ∈ WY) : UL X (inT Y s).2.2 sent (told ++ (inT Y s).1) WY := by
  obtain ⟨sb, ss⟩ := h.sw s hs
  have e0 : UL X Y sent (told ++ []) WY := by rw [List.append_nil]; exact h
  unfold inT
  split
  · exact e0
  · split
    · exact e0
    · obtain ⟨a1, a2, a3, a4⟩ := ack_peer (knowT Y s) s
      have hK : UL X (knowT Y s) sent told WY := by
        rcases h.u5 with ⟨p0, n0⟩ | ⟨p1, i1⟩
        · unfold knowT
          rw [if_pos (by omega), if_pos p0]
          have h4 := h.u4
          rw [n0] at h4
          exact ⟨h.bx, h.st, h.pr, h.sw, h.fx, h.u1, h.u2, h.u3, ⟨h4.1, Int.le_refl _⟩, .inr ⟨sb, ss⟩⟩
        · unfold knowT
          rw [if_neg (by omega), if_neg (by omega)]
          exact h
      have hA : UL X (ackT (knowT Y s) s) sent told WY := hK.sameY a1 a2 a3
      obtain ⟨K, hKe⟩ : ∃ K, K = ackT (knowT Y s) s := ⟨_, rfl⟩
      rw [← hKe] at hA ⊢
      split
      · rw [List.append_nil]; exact hA
      · rename_i hh
        have hh : s.has = true := by simpa using hh
        split
        · rename_i hc
          obtain ⟨c1, c2, c3⟩ := hc
          have h5 := hA.u5
          have h3 := hA.u3 s hs hh
          have h4 := hA.u4
          refine ⟨hA.bx, hA.st, hA.pr, hA.sw, hA.fx, hA.u1, hA.u2, hA.u3, ⟨?_, by show 0 ≤ K.next + 1; omega⟩, ?_⟩
          · show told ++ [s.body] = sent.take (K.next + 1).toNat
            rw [show (K.next + 1).toNat = K.next.toNat + 1 by omega, List.take_add_one, ← h4.1, ← c3, h3.2]; rfl
          · rcases h5 with ⟨p0, n0⟩ | h5
            · refine .inr ?_
              exfalso
              have k0 : K.peer = s.boot := by
                rw [hKe, a1]
                have hp : ¬ s.boot < Y.peer := by assumption
                exact (know_at Y s hp).2.1
              omega
            · exact .inr h5
        · rw [List.append_nil]; exact hA.sameY rfl rfl rfl
/-- What is accepted of a row of segments. -/
def accL : LnT → List SegT → List ByteArray
  | _, [] => []
  | L, s :: r => (inT L s).1 ++ accL (inT L s).2.2 r
theorem accL_snoc (L : LnT) (l : List SegT) (s : SegT) : accL L (l ++ [s]) = accL L l ++ (inT (recv L l) s).1 := by
  induction l generalizing L with
  | nil => simp [accL, recv]
  | cons a r ih =>
    show (inT L a).1 ++ accL (inT L a).2.2 (r ++ [s]) = ((inT L a).1 ++ accL (inT L a).2.2 r) ++ _
    rw [ih, List.append_assoc]; rfl
end
/-- Two sides, what each sent, what each was told. -/
structure HPr (X Y : LnT) (sX tY sY tX : List ByteArray) (WY WX : List SegT) : Prop where
  fa : FInv X Y 1 1 WY WX
  fb : FInv Y X 1 1 WX WY
  ua : UL X Y sX tY WY
  ub : UL Y X sY tX WX
  okX : LnOk X
  okY : LnOk Y
  lx : sX.length ≤ 8
  ly : sY.length ≤ 8
  nX : X.next ≤ sY.length
  nY : Y.next ≤ sX.length
section
variable {X Y : LnT} {sX tY sY tX : List ByteArray} {WY WX : List SegT} {s : SegT}
theorem HPr.symm (h : HPr X Y sX tY sY tX WY WX) : HPr Y X sY tX sX tY WX WY := ⟨h.fb, h.fa, h.ub, h.ua, h.okY, h.okX, h.ly, h.lx, h.nY, h.nX⟩
theorem HPr.may (h : HPr X Y sX tY sY tX WY WX) (g : Bool) : ∀ s ∈ outT X g, mayT s = true := fun s hs => by
  obtain ⟨⟨f1, f2, f3, f4⟩, f5, f6, f7, f8, f9⟩ := outT_form g s hs
  have b1 := h.ua.bx; have b2 := h.ua.st; have b3 := h.ua.pr; have b4 := h.okX.in0; have b5 := h.okX.next; have b6 := h.nX; have b7 := h.ly; have b8 := h.ua.u1; have b9 := h.lx; have b0 := h.ua.fx
  refine mayT_iff.2 ⟨by omega, by omega, by omega, by omega, by omega, by omega, by omega⟩
theorem HPr.outs (h : HPr X Y sX tY sY tX [] []) : HPr (outN X) (outN Y) sX tY sY tX (outT X true) (outT Y true) := by
  have fo := fun (L : LnT) s hs => outT_form (L := L) true s hs
  have sX' : ∀ s ∈ outT X true, s ∈ ([] : List SegT) ∨ s.stream = X.stream := fun s hs => .inr (fo X s hs).1.2.1
  have sY' : ∀ s ∈ outT Y true, s ∈ ([] : List SegT) ∨ s.stream = Y.stream := fun s hs => .inr (fo Y s hs).1.2.1
  have aX : ∀ s ∈ outT Y true, s ∈ ([] : List SegT) ∨ (s.ab = Y.peer ∧ s.ast = Y.in0 ∧ s.asq = Y.next) := fun s hs => .inr ⟨(fo Y s hs).1.2.2.1, (fo Y s hs).2.1, (fo Y s hs).2.2.1⟩
  have aY : ∀ s ∈ outT X true, s ∈ ([] : List SegT) ∨ (s.ab = X.peer ∧ s.ast = X.in0 ∧ s.asq = X.next) := fun s hs => .inr ⟨(fo X s hs).1.2.2.1, (fo X s hs).2.1, (fo X s hs).2.2.1⟩
  exact ⟨FInv.sameY (Y' := outN Y) (FInv.sameX (X' := outN X) (h.fa.way sX' aX) rfl rfl rfl) rfl rfl rfl, FInv.sameY (Y' := outN X) (FInv.sameX (X' := outN Y) (h.fb.way sY' aY) rfl rfl rfl) rfl rfl rfl,
    UL.sameY (Y' := outN Y) (UL.sameX (X' := outN X) (h.ua.way fun s hs => .inr (fo X s hs).1) rfl rfl rfl rfl rfl) rfl rfl rfl, UL.sameY (Y' := outN X) (UL.sameX (X' := outN Y) (h.ub.way fun s hs => .inr (fo Y s hs).1) rfl rfl rfl rfl rfl) rfl rfl rfl, outN_ok h.okX, outN_ok h.okY, h.lx, h.ly, h.nX, h.nY⟩
theorem HPr.inY (h : HPr X Y sX tY sY tX WY WX) (hs : s ∈ WY) : HPr X (inT Y s).2.2 sX (tY ++ (inT Y s).1) sY tX WY WX := by
  obtain ⟨sb, ss⟩ := h.ua.sw s hs
  have k := h.ua.inY hs
  refine ⟨h.fa.inY hs (by omega), h.fb.inX hs h.ub.bx, k, h.ub.inX sb, h.okX, inT_ok h.okY s, h.lx, h.ly, h.nX, ?_⟩
  have hl := congrArg List.length k.u4.1
  have hn := k.u4.2
  have h0 := h.nY
  by_cases hc : (inT Y s).1 = []
  · -- nothing was told: the count stays, or starts
    have := inT_next Y s
    rcases this with e | e | e
    · omega
    · omega
    · exact absurd hc e.1
  · have h2 : (inT Y s).1.length ≤ 1 := inT_atm Y s
    have h3 : 0 < (inT Y s).1.length := List.length_pos_iff.2 hc
    rcases inT_next Y s with e | e | e
    · omega
    · omega
    · rw [List.length_append, List.length_take] at hl
      have h4 := congrArg List.length h.ua.u4.1
      rw [List.length_take] at h4
      have h5 := h.ua.u4.2
      omega
theorem HPr.recvY (h : HPr X Y sX tY sY tX WY WX) (l : List SegT) (hl : ∀ s ∈ l, s ∈ WY) : HPr X (recv Y l) sX (tY ++ accL Y l) sY tX WY WX := by
  induction l generalizing Y tY with
  | nil => show HPr X Y sX (tY ++ []) sY tX WY WX; rw [List.append_nil]; exact h
  | cons s r ih =>
    have h1 := ih (h.inY (hl s (by simp))) (fun x hx => hl x (by simp [hx]))
    rw [List.append_assoc] at h1; exact h1
theorem HPr.clr (h : HPr X Y sX tY sY tX WY WX) : HPr X Y sX tY sY tX [] [] := by
  have hn : ∀ {p : Prop} (s : SegT), s ∈ ([] : List SegT) → p := fun s h => (List.not_mem_nil h).elim
  exact ⟨h.fa.way (fun s hs => hn s hs) (fun s hs => hn s hs), h.fb.way (fun s hs => hn s hs) (fun s hs => hn s hs), h.ua.way (fun s hs => hn s hs), h.ub.way (fun s hs => hn s hs), h.okX, h.okY, h.lx, h.ly, h.nX, h.nY⟩
/-- A round. -/
theorem HPr.round (h : HPr X Y sX tY sY tX [] []) : HPr (nx X Y) (nx Y X) sX (tY ++ accL (outN Y) (outT X true)) sY (tX ++ accL (outN X) (outT Y true)) [] [] := by
  have h1 := h.outs.recvY (outT X true) (fun s hs => hs)
  have h2 := h1.symm.recvY (outT Y true) (fun s hs => hs)
  exact h2.symm.clr
theorem HPr.ri (h : HPr X Y sX tY sY tX [] []) : RI X Y := by
  have a1 := h.ua.bx; have a2 := h.ub.bx; have a3 := h.ua.pr; have a4 := h.ub.pr
  refine ⟨by omega, by omega, by rw [a1]; exact h.fa.f2, by rw [a1, a2]; exact h.fa.f3, h.ua.u4.2, h.ua.fx, h.okX.len, h.may true, h.symm.may true⟩
theorem HPr.fin (h : HPr X Y sX tY sY tX [] []) (hq : X.q = []) : tY = sX := by
  have h1 := h.ua.u1; have h4 := h.ua.u4; have h0 := h.fa.p0; have hp := h.ua.pr; have hf := h.ua.fx
  rw [hq] at h1
  have h1 : X.first + 0 = sX.length := h1
  rw [h4.1]
  refine List.take_of_length_le ?_
  by_cases hz : X.first = 0
  · omega
  · have := (h.fa.f3 (by omega) (by omega)).2.2
    omega
theorem HPr.new : HPr (newLn 1) (newLn 1) [] [] [] [] [] [] := by
  have hn : ∀ {p : Prop} (s : SegT), s ∈ ([] : List SegT) → p := fun s h => (List.not_mem_nil h).elim
  have h : FInv (newLn 1) (newLn 1) 1 1 [] [] := ⟨fun _ => rfl, fun e => by have e : (0 : Int) = 1 := e; omega, fun s hs => hn s hs, fun s hs => hn s hs, fun s hs => hn s hs, fun e => by have e : (0 : Int) = 1 := e; omega⟩
  have u : UL (newLn 1) (newLn 1) [] [] [] := ⟨rfl, rfl, .inl rfl, fun s hs => hn s hs, Int.le_refl _, rfl, fun i b hb => by simp [newLn] at hb, fun s hs => hn s hs, ⟨rfl, Int.le_refl _⟩, .inl ⟨rfl, rfl⟩⟩
  exact ⟨h, h, u, u, newLn_ok ⟨by omega, by omega⟩, newLn_ok ⟨by omega, by omega⟩, by simp, by simp, Int.le_refl _, Int.le_refl _⟩
/-- One text more is sent, ahead of all rounds. -/
theorem HPr.send {b : ByteArray} (h : HPr X Y sX tY sY tX [] []) (h0 : X.first = 0) (hs : (sendT X b).1 = 0) : HPr (sendT X b).2 Y (sX ++ [b]) tY sY tX [] [] ∧ (sendT X b).2.first = 0 := by
  have hok := sendT_ok h.okX b
  have hq : X.q.length < 8 ∧ (sendT X b).2 = { X with q := X.q ++ [b] } := by
    unfold sendT at hs ⊢
    split at hs
    · simp at hs
    · split at hs
      · simp at hs
      · rename_i k1 k2; rw [if_neg k1, if_neg k2]; exact ⟨by omega, rfl⟩
  have h1 := h.ua.u1; have hn := h.nY
  rw [hq.2] at hok ⊢
  refine ⟨⟨h.fa.sameX rfl rfl rfl, h.fb.sameY rfl rfl rfl, h.ua.send hn, h.ub.sameY rfl rfl rfl, hok, h.okY, ?_, h.ly, h.nX, ?_⟩, h0⟩
  · rw [List.length_append]; simp; omega
  · rw [List.length_append]; simp; omega
end
theorem fair8 {X Y : LnT} {sX tY sY tX : List ByteArray} (X' Y' : Nat → LnT) (tY' tX' : Nat → List ByteArray) (h : ∀ k, k ≤ 8 → HPr (X' k) (Y' k) sX (tY' k) sY (tX' k) [] []) (hx : ∀ k, k < 8 → X' (k + 1) = nx (X' k) (Y' k)) (hy : ∀ k, k < 8 → Y' (k + 1) = nx (Y' k) (X' k)) : (X' 8).q = [] ∧ tY' 8 = sX := by
  have hq := eight (X := X') (Y := Y') (fun k hk => (h k (by omega)).ri) hx hy
  exact ⟨hq, (h 8 (by omega)).fin hq⟩
end Go.Proofs.Ytpcbgkmnjmiigaa

/- Package link: zero, Knows, Waiting, know; the document's known. Conditions: none. -/
namespace Go.Proofs.Ytpcbgkmnjmiigaa
open Go.RowKit Go.PlainAid
set_option linter.unusedVariables false


theorem strE_len (s : ByteArray) : (strE s).length = 1 := rfl
theorem strE_one (s : ByteArray) : ∀ u ∈ strE s, u.oneCell' = true := by intro u hu; simp [strE] at hu; subst hu; rfl
theorem own_but {S : Nat → Prop} {w x : World} {v : Value} {e : TypeId} {B sz k : Nat} {xs : List Value} (h : w.ownsRow B e sz v k xs) (hb : But S w x) (hn : ∀ i, v.ownBlock = some i → ¬ S i) : x.ownsRow B e sz v k xs := own_butS h hb hn
theorem Blk.but {S : Nat → Prop} {w x : World} {N : Nat} {T : TypeId} {cs : Array Value} (h : Blk w N T cs) (hb : But S w x) (hn : ¬ S N) : Blk x N T cs := h.butS hb hn
set_option maxRecDepth 100000 in
theorem lkZero_blk (b : Nat) (u : Value) (L : LnT) (w : World) (hB : Blk w b 90 #[.int .i64 L.boot, .int .i64 L.stream, .int .i64 L.first, u, .int .i64 L.told, .int .i64 L.peer, .int .i64 L.in0, .int .i64 L.next, .bool L.owes]) (hok : LnOk L) :
    Calls Try.prog 37 #[pt b 0] w fun e w' => e = .returned (.bool false) ∧ w = w' := by
 have hB0 := Below.refl w.heap.size w
 have hl_hB := hB.lt
 obtain ⟨⟨k1, k2⟩, ⟨k3, k4⟩, ⟨k5, k6⟩, ⟨k7, k8⟩, ⟨k9, k10⟩, ⟨k11, k12⟩, ⟨k13, k14⟩, k15, k16⟩ := id hok
 refine co_enter (n := 12) Try.func37 rfl rfl rfl [(0, pt b 0)] rfl (fun a h0 => ?_)
 refine co_seq ?_
 refine co_reg ?_
 refine pk0 (v := .bool false) h0 rfl fun a1 h1 => ?_; clear h0
 refine pl_nil ?_
 refine co_then ?_
 refine co_seq ?_
 refine co_reg ?_
 refine pk0 (v := pt b 0) h1 rfl fun a2 h2 => ?_; clear h1
 refine pk0 (v := .bool false) h2 rfl fun a3 h3 => ?_; clear h2
 refine pk0 (v := .bool false) h3 rfl fun a4 h4 => ?_; clear h3
 refine pk0 (v := pt b 0) h4 rfl fun a5 h5 => ?_; clear h4
 refine pk0 (v := pt b 0) h5 rfl fun a6 h6 => ?_; clear h5
 refine pk0 (v := pt b 0) h6 rfl fun a7 h7 => ?_; clear h6
 refine pk (v := .int .i64 L.boot) h7 rfl (rn_load1 rfl rfl Try.isAgg3 (hB.cell rfl)) fun a8 h8 => ?_; clear h7
 refine pk0 (v := .bool (L.boot == 0)) h8 rfl fun a9 h9 => ?_; clear h8
 refine pk0 (v := .bool (L.boot == 0)) h9 rfl fun a10 h10 => ?_; clear h9
 refine pk0 (v := .bool (L.boot == 0)) h10 rfl fun a11 h11 => ?_; clear h10
 refine pl_nil ?_
 refine co_then ?_
 refine wp_ret ?_
 refine co_ret1 h11 rfl rfl ?_
 exact ⟨by rw [beq_false_of_ne (show L.boot ≠ 0 by omega)], rfl⟩
set_option maxRecDepth 100000 in
theorem lkWaiting_blk (b : Nat) (u : Value) (L : LnT) (w : World) (hB : Blk w b 90 #[.int .i64 L.boot, .int .i64 L.stream, .int .i64 L.first, u, .int .i64 L.told, .int .i64 L.peer, .int .i64 L.in0, .int .i64 L.next, .bool L.owes]) (hok : LnOk L) (hs : SliceOf strE 1 w u L.q) :
    Calls Try.prog 34 #[pt b 0] w fun e w' => e = .returned (.int .i64 (L.q.length : Int)) ∧ w = w' := by
 have hB0 := Below.refl w.heap.size w
 have hl_hB := hB.lt
 have hl_hs := sl_len hs
 obtain ⟨⟨k1, k2⟩, ⟨k3, k4⟩, ⟨k5, k6⟩, ⟨k7, k8⟩, ⟨k9, k10⟩, ⟨k11, k12⟩, ⟨k13, k14⟩, k15, k16⟩ := id hok
 refine co_enter (n := 11) Try.func34 rfl rfl rfl [(0, pt b 0)] rfl (fun a h0 => ?_)
 refine co_seq ?_
 refine co_reg ?_
 refine pk0 (v := .int .i64 0) h0 rfl fun a1 h1 => ?_; clear h0
 refine pl_nil ?_
 refine co_then ?_
 refine co_seq ?_
 refine co_seq ?_
 refine co_reg ?_
 refine pk0 (v := pt b 0) h1 rfl fun a2 h2 => ?_; clear h1
 refine pw h2 rfl (op_call (args := #[pt b 0]) (R := fun res xw => res = .bool false ∧ w = xw) rfl rfl rfl (by kernel_rfl) (by kernel_rfl) (Try.call37 _ _) (lkZero_blk b u _ w hB hok) (by rintro e x ⟨rfl, rfl⟩; exact ⟨_, rfl, ⟨rfl, rfl⟩⟩)) ?_; clear h2
 rintro _ _ a3 ⟨rfl, rfl⟩ h3
 refine pl_nil ?_
 refine co_then ?_
 refine co_false h3 rfl ?_
 refine wp_skip ?_
 refine co_then ?_
 refine co_seq ?_
 refine co_reg ?_
 refine pk0 (v := pt b 0) h3 rfl fun a6 h6 => ?_; clear h3
 refine pk0 (v := pt b 0) h6 rfl fun a7 h7 => ?_; clear h6
 refine pk0 (v := pt b 2) h7 rfl fun a8 h8 => ?_; clear h7
 refine pk0 (v := pt b 3) h8 rfl fun a9 h9 => ?_; clear h8
 refine pk (v := u) h9 rfl (rn_load1 rfl rfl Try.isAgg37 (hB.cell rfl)) fun a10 h10 => ?_; clear h9
 refine pk (v := .int .i64 ((L.q.length : Nat) : Int)) h10 rfl (rn_len rfl rfl Try.underlying37 hs) fun a11 h11 => ?_; clear h10
 refine pk0 (v := .int .i64 ((L.q.length : Nat) : Int)) h11 rfl fun a12 h12 => ?_; clear h11
 refine pl_nil ?_
 refine co_then ?_
 refine wp_ret ?_
 refine co_ret1 h12 rfl rfl ?_
 exact ⟨rfl, rfl⟩
set_option maxRecDepth 100000 in
theorem lkKnow_blk (b : Nat) (u : Value) (L : LnT) (s : SegT) (w : World) (hB : Blk w b 90 #[.int .i64 L.boot, .int .i64 L.stream, .int .i64 L.first, u, .int .i64 L.told, .int .i64 L.peer, .int .i64 L.in0, .int .i64 L.next, .bool L.owes]) (hok : LnOk L) (hm : 0 ≤ s.boot ∧ 0 ≤ s.stream) :
    Calls Try.prog 55 #[pt b 0, .agg #[.int .i64 s.boot, .int .i64 s.stream, .int .i64 s.seq, .int .i64 s.ab, .int .i64 s.ast, .int .i64 s.asq, .bool s.has, .string s.body]] w fun e w' => e = .returned (.tuple #[]) ∧ Blk w' b 90 (lnC (knowT L s) u) ∧ But (fun q => q = b) w w' := by
 have hB0 := But.refl (fun q => q = b) w
 have hl_hB := hB.lt
 obtain ⟨⟨k1, k2⟩, ⟨k3, k4⟩, ⟨k5, k6⟩, ⟨k7, k8⟩, ⟨k9, k10⟩, ⟨k11, k12⟩, ⟨k13, k14⟩, k15, k16⟩ := id hok
 have hSb : (fun q => q = b) b ∨ w.heap.size ≤ b := .inl rfl
 refine co_enter (n := 60) Try.func55 rfl rfl rfl [(0, pt b 0), (1, .agg #[.int .i64 s.boot, .int .i64 s.stream, .int .i64 s.seq, .int .i64 s.ab, .int .i64 s.ast, .int .i64 s.asq, .bool s.has, .string s.body])] rfl (fun a h0 => ?_)
 refine co_seq ?_
 refine co_reg ?_
 refine pw h0 rfl (op_new (v := fun N => pt N 0) (T := 73) (cs := #[.int .i64 s.boot, .int .i64 s.stream, .int .i64 s.seq, .int .i64 s.ab, .int .i64 s.ast, .int .i64 s.asq, .bool s.has, .string s.body]) (by kernel_rfl) (by kernel_rfl) (by kernel_rfl)) ?_; clear h0
 rintro _ w2 a1 ⟨N3, rfl, hN6, hz7, hk5, hg4⟩ h1
 have hz8 := hg4.size
 try dsimp only at h1
 refine pl_nil ?_
 refine co_then ?_
 refine wp_block ?_
 refine co_seq ?_
 refine dr_eq (by kernel_rfl) (fun w9 hg10 => ?_)
 have hz11 := hg10.size
 refine dk0 0 (v := pt N3 0) h1 rfl rfl rfl fun a12 h12 => ?_; clear h1
 have hk13 := hk5.kept hg10 (by simp)
 refine dk 1 (v := .int .i64 s.boot) h12 rfl rfl rfl (fun x hx => by subst hx; exact (rn_load1 rfl rfl Try.isAgg3 (hk13.cell rfl))) fun a14 h14 => ?_; clear h12
 refine dk0 2 (v := pt b 0) h14 rfl rfl rfl fun a15 h15 => ?_; clear h14
 refine dk0 3 (v := pt b 0) h15 rfl rfl rfl fun a16 h16 => ?_; clear h15
 refine dk0 4 (v := pt b 5) h16 rfl rfl rfl fun a17 h17 => ?_; clear h16
 have hk18 := hB.kept hg4 (by simp)
 have hk19 := hk18.kept hg10 (by simp)
 refine dk 5 (v := .int .i64 L.peer) h17 rfl rfl rfl (fun x hx => by subst hx; exact (rn_load1 rfl rfl Try.isAgg3 (hk19.cell rfl))) fun a20 h20 => ?_; clear h17
 refine dk0 6 (v := .bool (decide (s.boot > L.peer))) h20 rfl rfl rfl fun a21 h21 => ?_; clear h20
 refine dk0 7 (v := .bool (decide (s.boot > L.peer))) h21 rfl rfl rfl fun a22 h22 => ?_; clear h21
 refine dr_done (by kernel_rfl) ?_
 refine co_then ?_
 have hB24 := fbU_new hB0 hg4
 have hB25 := fbU_new hB24 hg10
 cases hc23 : (decide (s.boot > L.peer))
 ·
  rw [hc23] at h22
  have hp26 : ¬ (s.boot > L.peer) := of_decide_eq_false hc23
  clear hc23
  refine co_false h22 rfl ?_
  refine co_seq ?_
  refine dr_eq (by kernel_rfl) (fun w27 hg28 => ?_)
  have hz29 := hg28.size
  refine dk0 0 (v := pt N3 1) h22 rfl rfl rfl fun a30 h30 => ?_; clear h22
  have hk31 := hk13.kept hg28 (by simp)
  refine dk 1 (v := .int .i64 s.stream) h30 rfl rfl rfl (fun x hx => by subst hx; exact (rn_load1 rfl rfl Try.isAgg3 (hk31.cell rfl))) fun a32 h32 => ?_; clear h30
  refine dk0 2 (v := pt b 0) h32 rfl rfl rfl fun a33 h33 => ?_; clear h32
  refine dk0 3 (v := pt b 0) h33 rfl rfl rfl fun a34 h34 => ?_; clear h33
  refine dk0 4 (v := pt b 6) h34 rfl rfl rfl fun a35 h35 => ?_; clear h34
  have hk36 := hk19.kept hg28 (by simp)
  refine dk 5 (v := .int .i64 L.in0) h35 rfl rfl rfl (fun x hx => by subst hx; exact (rn_load1 rfl rfl Try.isAgg3 (hk36.cell rfl))) fun a37 h37 => ?_; clear h35
  refine dk0 6 (v := .bool (decide (s.stream > L.in0))) h37 rfl rfl rfl fun a38 h38 => ?_; clear h37
  refine dk0 7 (v := .bool (decide (s.stream > L.in0))) h38 rfl rfl rfl fun a39 h39 => ?_; clear h38
  refine dr_done (by kernel_rfl) ?_
  refine co_then ?_
  have hB41 := fbU_new hB25 hg28
  cases hc40 : (decide (s.stream > L.in0))
  ·
   rw [hc40] at h39
   have hp42 : ¬ (s.stream > L.in0) := of_decide_eq_false hc40
   clear hc40
   refine co_false h39 rfl ?_
   refine wp_skip ?_
   refine co_blockN ?_
   refine co_ret0n h39 rfl ?_
   have hE : Blk w27 b 90 (lnC (knowT L s) u) := by
     unfold knowT; first
     | (rw [if_pos (by omega), if_pos (by omega)]; exact hk36)
     | (rw [if_pos (by omega), if_neg (by omega)]; exact hk36)
     | (rw [if_neg (by omega), if_pos (by omega)]; exact hk36)
     | (rw [if_neg (by omega), if_neg (by omega)]; exact hk36)
   exact ⟨rfl, hE, hB41⟩
  ·
   rw [hc40] at h39
   have hp43 : s.stream > L.in0 := of_decide_eq_true hc40
   clear hc40
   refine co_true h39 rfl ?_
   refine co_reg ?_
   refine pk0 (v := pt b 0) h39 rfl fun a44 h44 => ?_; clear h39
   refine pk0 (v := pt b 0) h44 rfl fun a45 h45 => ?_; clear h44
   refine pk0 (v := pt N3 1) h45 rfl fun a46 h46 => ?_; clear h45
   refine pk (v := .int .i64 s.stream) h46 rfl (rn_load1 rfl rfl Try.isAgg3 (hk31.cell rfl)) fun a47 h47 => ?_; clear h46
   refine pk0 (v := pt b 0) h47 rfl fun a48 h48 => ?_; clear h47
   refine pk0 (v := pt b 6) h48 rfl fun a49 h49 => ?_; clear h48
   refine pwD h49 rfl (op_store1 rfl rfl rfl rfl Try.sizeOf3 hk36 rfl) ?_; clear h49
   rintro _ w51 a50 ⟨hk52, hz53, hg54⟩ h50
   have hk52' : Blk w51 b 90 #[.int .i64 L.boot, .int .i64 L.stream, .int .i64 L.first, u, .int .i64 L.told, .int .i64 L.peer, .int .i64 s.stream, .int .i64 L.next, .bool L.owes] := hk52; clear hk52
   have hz55 := hg54.size
   refine pk0 (v := pt b 0) h50 rfl fun a56 h56 => ?_; clear h50
   refine pk0 (v := pt b 7) h56 rfl fun a57 h57 => ?_; clear h56
   refine pwD h57 rfl (op_store1 rfl rfl rfl rfl Try.sizeOf3 hk52' rfl) ?_; clear h57
   rintro _ w59 a58 ⟨hk60, hz61, hg62⟩ h58
   have hk60' : Blk w59 b 90 #[.int .i64 L.boot, .int .i64 L.stream, .int .i64 L.first, u, .int .i64 L.told, .int .i64 L.peer, .int .i64 s.stream, .int .i64 0, .bool L.owes] := hk60; clear hk60
   have hz63 := hg62.size
   refine pl_nil ?_
   refine co_blockN ?_
   refine co_ret0n h58 rfl ?_
   have hB64 := fbU_at hB41 hg54 (fun hlt => by rcases hSb with hq | hq; exact hq; omega)
   have hB65 := fbU_at hB64 hg62 (fun hlt => by rcases hSb with hq | hq; exact hq; omega)
   have hE : Blk w59 b 90 (lnC (knowT L s) u) := by
     unfold knowT; first
     | (rw [if_pos (by omega), if_pos (by omega)]; exact hk60')
     | (rw [if_pos (by omega), if_neg (by omega)]; exact hk60')
     | (rw [if_neg (by omega), if_pos (by omega)]; exact hk60')
     | (rw [if_neg (by omega), if_neg (by omega)]; exact hk60')
   exact ⟨rfl, hE, hB65⟩
 ·
  rw [hc23] at h22
  have hp66 : s.boot > L.peer := of_decide_eq_true hc23
  clear hc23
  refine co_true h22 rfl ?_
  refine co_seq ?_
  refine co_seq ?_
  refine co_reg ?_
  refine pk0 (v := pt b 0) h22 rfl fun a67 h67 => ?_; clear h22
  refine pk0 (v := pt b 0) h67 rfl fun a68 h68 => ?_; clear h67
  refine pk0 (v := pt b 5) h68 rfl fun a69 h69 => ?_; clear h68
  refine pk (v := .int .i64 L.peer) h69 rfl (rn_load1 rfl rfl Try.isAgg3 (hk19.cell rfl)) fun a70 h70 => ?_; clear h69
  refine pk0 (v := .bool (L.peer != 0)) h70 rfl fun a71 h71 => ?_; clear h70
  refine pl_nil ?_
  refine co_then ?_
  cases hc72 : (L.peer != 0)
  ·
   rw [hc72] at h71
   have hp73 : ¬ (L.peer ≠ 0) := by first | simpa using hc72 | simpa [and_assoc] using hc72
   clear hc72
   refine co_false h71 rfl ?_
   refine wp_skip ?_
   refine co_then ?_
   refine dr_gen (fun x => But (fun q => q = b) w x ∧ Blk x N3 73 #[.int .i64 s.boot, .int .i64 s.stream, .int .i64 s.seq, .int .i64 s.ab, .int .i64 s.ast, .int .i64 s.asq, .bool s.has, .string s.body]) (by kernel_rfl) (fun w74 hg75 => ?_) (fun w74 hg75 => ?_)
   ·
    have hz76 := hg75.size
    have hB77 := fbU_new hB25 hg75
    have hk78 := hk13.kept hg75 (by simp)
    exact ⟨hB77, hk78⟩
   have hz79 := hg75.size
   have hB80 := fbU_new hB25 hg75
   have hk81 := hk13.kept hg75 (by simp)
   refine dk0 0 (v := pt b 0) h71 rfl rfl ⟨hB80, hk81⟩ fun a82 h82 => ?_; clear h71
   refine dk0 1 (v := pt b 0) h82 rfl rfl ⟨hB80, hk81⟩ fun a83 h83 => ?_; clear h82
   refine dk0 2 (v := pt b 0) h83 rfl rfl ⟨hB80, hk81⟩ fun a84 h84 => ?_; clear h83
   refine dk0 3 (v := pt N3 0) h84 rfl rfl ⟨hB80, hk81⟩ fun a85 h85 => ?_; clear h84
   refine dk 4 (v := .int .i64 s.boot) h85 rfl rfl ⟨hB80, hk81⟩ (fun x hx => (rn_load1 rfl rfl Try.isAgg3 (hx.2.cell rfl))) fun a86 h86 => ?_; clear h85
   refine dk0 5 (v := pt N3 1) h86 rfl rfl ⟨hB80, hk81⟩ fun a87 h87 => ?_; clear h86
   refine dk 6 (v := .int .i64 s.stream) h87 rfl rfl ⟨hB80, hk81⟩ (fun x hx => (rn_load1 rfl rfl Try.isAgg3 (hx.2.cell rfl))) fun a88 h88 => ?_; clear h87
   refine dk0 7 (v := pt b 0) h88 rfl rfl ⟨hB80, hk81⟩ fun a89 h89 => ?_; clear h88
   refine dk0 8 (v := pt b 5) h89 rfl rfl ⟨hB80, hk81⟩ fun a90 h90 => ?_; clear h89
   have hk96 := hk19.kept hg75 (by simp)
   refine d1D 9 h90 rfl rfl (op_store1 rfl rfl rfl rfl Try.sizeOf3 hk96 rfl) ?_ ?_; clear h90
   ·
    rintro _ w92 ⟨hk93, hz94, hg95⟩
    have hk93' : Blk w92 b 90 #[.int .i64 L.boot, .int .i64 L.stream, .int .i64 L.first, u, .int .i64 L.told, .int .i64 s.boot, .int .i64 L.in0, .int .i64 L.next, .bool L.owes] := hk93; clear hk93
    have hz97 := hg95.size
    have hB98 := fbU_at hB80 hg95 (fun hlt => by rcases hSb with hq | hq; exact hq; omega)
    have hk99 := hk81.kept hg95 (by simp; omega)
    exact ⟨hB98, hk99⟩
   rintro _ w92 a91 ⟨hk93, hz94, hg95⟩ h91
   have hk93' : Blk w92 b 90 #[.int .i64 L.boot, .int .i64 L.stream, .int .i64 L.first, u, .int .i64 L.told, .int .i64 s.boot, .int .i64 L.in0, .int .i64 L.next, .bool L.owes] := hk93; clear hk93
   have hz97 := hg95.size
   have hB98 := fbU_at hB80 hg95 (fun hlt => by rcases hSb with hq | hq; exact hq; omega)
   have hk99 := hk81.kept hg95 (by simp; omega)
   refine dk0 10 (v := pt b 0) h91 rfl rfl ⟨hB98, hk99⟩ fun a100 h100 => ?_; clear h91
   refine dk0 11 (v := pt b 6) h100 rfl rfl ⟨hB98, hk99⟩ fun a101 h101 => ?_; clear h100
   refine d1D 12 h101 rfl rfl (op_store1 rfl rfl rfl rfl Try.sizeOf3 hk93' rfl) ?_ ?_; clear h101
   ·
    rintro _ w103 ⟨hk104, hz105, hg106⟩
    have hk104' : Blk w103 b 90 #[.int .i64 L.boot, .int .i64 L.stream, .int .i64 L.first, u, .int .i64 L.told, .int .i64 s.boot, .int .i64 s.stream, .int .i64 L.next, .bool L.owes] := hk104; clear hk104
    have hz107 := hg106.size
    have hB108 := fbU_at hB98 hg106 (fun hlt => by rcases hSb with hq | hq; exact hq; omega)
    have hk109 := hk99.kept hg106 (by simp; omega)
    exact ⟨hB108, hk109⟩
   rintro _ w103 a102 ⟨hk104, hz105, hg106⟩ h102
   have hk104' : Blk w103 b 90 #[.int .i64 L.boot, .int .i64 L.stream, .int .i64 L.first, u, .int .i64 L.told, .int .i64 s.boot, .int .i64 s.stream, .int .i64 L.next, .bool L.owes] := hk104; clear hk104
   have hz107 := hg106.size
   have hB108 := fbU_at hB98 hg106 (fun hlt => by rcases hSb with hq | hq; exact hq; omega)
   have hk109 := hk99.kept hg106 (by simp; omega)
   refine dk0 13 (v := pt b 0) h102 rfl rfl ⟨hB108, hk109⟩ fun a110 h110 => ?_; clear h102
   refine dk0 14 (v := pt b 7) h110 rfl rfl ⟨hB108, hk109⟩ fun a111 h111 => ?_; clear h110
   refine d1D 15 h111 rfl rfl (op_store1 rfl rfl rfl rfl Try.sizeOf3 hk104' rfl) ?_ ?_; clear h111
   ·
    rintro _ w113 ⟨hk114, hz115, hg116⟩
    have hk114' : Blk w113 b 90 #[.int .i64 L.boot, .int .i64 L.stream, .int .i64 L.first, u, .int .i64 L.told, .int .i64 s.boot, .int .i64 s.stream, .int .i64 0, .bool L.owes] := hk114; clear hk114
    have hz117 := hg116.size
    have hB118 := fbU_at hB108 hg116 (fun hlt => by rcases hSb with hq | hq; exact hq; omega)
    have hk119 := hk109.kept hg116 (by simp; omega)
    exact ⟨hB118, hk119⟩
   rintro _ w113 a112 ⟨hk114, hz115, hg116⟩ h112
   have hk114' : Blk w113 b 90 #[.int .i64 L.boot, .int .i64 L.stream, .int .i64 L.first, u, .int .i64 L.told, .int .i64 s.boot, .int .i64 s.stream, .int .i64 0, .bool L.owes] := hk114; clear hk114
   have hz117 := hg116.size
   refine dr_done (by kernel_rfl) ?_
   refine co_blockN ?_
   refine co_ret0n h112 rfl ?_
   have hB118 := fbU_at hB108 hg116 (fun hlt => by rcases hSb with hq | hq; exact hq; omega)
   have hE : Blk w113 b 90 (lnC (knowT L s) u) := by
     unfold knowT; first
     | (rw [if_pos (by omega), if_pos (by omega)]; exact hk114')
     | (rw [if_pos (by omega), if_neg (by omega)]; exact hk114')
     | (rw [if_neg (by omega), if_pos (by omega)]; exact hk114')
     | (rw [if_neg (by omega), if_neg (by omega)]; exact hk114')
   exact ⟨rfl, hE, hB118⟩
  ·
   rw [hc72] at h71
   have hp119 : L.peer ≠ 0 := by first | simpa using hc72 | simpa [and_assoc] using hc72
   clear hc72
   refine co_true h71 rfl ?_
   refine co_seq ?_
   refine co_reg ?_
   refine pk0 (v := pt b 0) h71 rfl fun a120 h120 => ?_; clear h71
   refine pk0 (v := pt b 0) h120 rfl fun a121 h121 => ?_; clear h120
   refine pk0 (v := pt b 1) h121 rfl fun a122 h122 => ?_; clear h121
   refine pk (v := .int .i64 L.stream) h122 rfl (rn_load1 rfl rfl Try.isAgg3 (hk19.cell rfl)) fun a123 h123 => ?_; clear h122
   refine pk (v := .int .i64 (L.stream + 1)) h123 rfl (rn_arith rfl rfl rfl rfl rfl rfl (IntWalk.i64_in _ (by omega))) fun a124 h124 => ?_; clear h123
   refine pk0 (v := pt b 0) h124 rfl fun a125 h125 => ?_; clear h124
   refine pk0 (v := pt b 1) h125 rfl fun a126 h126 => ?_; clear h125
   refine pwD h126 rfl (op_store1 rfl rfl rfl rfl Try.sizeOf3 hk19 rfl) ?_; clear h126
   rintro _ w128 a127 ⟨hk129, hz130, hg131⟩ h127
   have hk129' : Blk w128 b 90 #[.int .i64 L.boot, .int .i64 (L.stream + 1), .int .i64 L.first, u, .int .i64 L.told, .int .i64 L.peer, .int .i64 L.in0, .int .i64 L.next, .bool L.owes] := hk129; clear hk129
   have hz132 := hg131.size
   refine pl_nil ?_
   refine co_then ?_
   refine co_reg ?_
   refine pk0 (v := pt b 0) h127 rfl fun a133 h133 => ?_; clear h127
   refine pk0 (v := pt b 0) h133 rfl fun a134 h134 => ?_; clear h133
   refine pk0 (v := pt b 0) h134 rfl fun a135 h135 => ?_; clear h134
   refine pk0 (v := pt b 2) h135 rfl fun a136 h136 => ?_; clear h135
   refine pk0 (v := pt b 2) h136 rfl fun a137 h137 => ?_; clear h136
   refine pwD h137 rfl (op_store1 rfl rfl rfl rfl Try.sizeOf3 hk129' rfl) ?_; clear h137
   rintro _ w139 a138 ⟨hk140, hz141, hg142⟩ h138
   have hk140' : Blk w139 b 90 #[.int .i64 L.boot, .int .i64 (L.stream + 1), .int .i64 0, u, .int .i64 L.told, .int .i64 L.peer, .int .i64 L.in0, .int .i64 L.next, .bool L.owes] := hk140; clear hk140
   have hz143 := hg142.size
   refine pk0 (v := pt b 0) h138 rfl fun a144 h144 => ?_; clear h138
   refine pk0 (v := pt b 4) h144 rfl fun a145 h145 => ?_; clear h144
   refine pwD h145 rfl (op_store1 rfl rfl rfl rfl Try.sizeOf3 hk140' rfl) ?_; clear h145
   rintro _ w147 a146 ⟨hk148, hz149, hg150⟩ h146
   have hk148' : Blk w147 b 90 #[.int .i64 L.boot, .int .i64 (L.stream + 1), .int .i64 0, u, .int .i64 0, .int .i64 L.peer, .int .i64 L.in0, .int .i64 L.next, .bool L.owes] := hk148; clear hk148
   have hz151 := hg150.size
   refine pl_nil ?_
   refine co_then ?_
   refine dr_gen (fun x => But (fun q => q = b) w x ∧ Blk x N3 73 #[.int .i64 s.boot, .int .i64 s.stream, .int .i64 s.seq, .int .i64 s.ab, .int .i64 s.ast, .int .i64 s.asq, .bool s.has, .string s.body]) (by kernel_rfl) (fun w152 hg153 => ?_) (fun w152 hg153 => ?_)
   ·
    have hz154 := hg153.size
    have hB155 := fbU_at hB25 hg131 (fun hlt => by rcases hSb with hq | hq; exact hq; omega)
    have hB156 := fbU_at hB155 hg142 (fun hlt => by rcases hSb with hq | hq; exact hq; omega)
    have hB157 := fbU_at hB156 hg150 (fun hlt => by rcases hSb with hq | hq; exact hq; omega)
    have hB158 := fbU_new hB157 hg153
    have hk159 := hk13.kept hg131 (by simp; omega)
    have hk160 := hk159.kept hg142 (by simp; omega)
    have hk161 := hk160.kept hg150 (by simp; omega)
    have hk162 := hk161.kept hg153 (by simp)
    exact ⟨hB158, hk162⟩
   have hz163 := hg153.size
   have hB164 := fbU_at hB25 hg131 (fun hlt => by rcases hSb with hq | hq; exact hq; omega)
   have hB165 := fbU_at hB164 hg142 (fun hlt => by rcases hSb with hq | hq; exact hq; omega)
   have hB166 := fbU_at hB165 hg150 (fun hlt => by rcases hSb with hq | hq; exact hq; omega)
   have hB167 := fbU_new hB166 hg153
   have hk168 := hk13.kept hg131 (by simp; omega)
   have hk169 := hk168.kept hg142 (by simp; omega)
   have hk170 := hk169.kept hg150 (by simp; omega)
   have hk171 := hk170.kept hg153 (by simp)
   refine dk0 0 (v := pt b 0) h146 rfl rfl ⟨hB167, hk171⟩ fun a172 h172 => ?_; clear h146
   refine dk0 1 (v := pt b 0) h172 rfl rfl ⟨hB167, hk171⟩ fun a173 h173 => ?_; clear h172
   refine dk0 2 (v := pt b 0) h173 rfl rfl ⟨hB167, hk171⟩ fun a174 h174 => ?_; clear h173
   refine dk0 3 (v := pt N3 0) h174 rfl rfl ⟨hB167, hk171⟩ fun a175 h175 => ?_; clear h174
   refine dk 4 (v := .int .i64 s.boot) h175 rfl rfl ⟨hB167, hk171⟩ (fun x hx => (rn_load1 rfl rfl Try.isAgg3 (hx.2.cell rfl))) fun a176 h176 => ?_; clear h175
   refine dk0 5 (v := pt N3 1) h176 rfl rfl ⟨hB167, hk171⟩ fun a177 h177 => ?_; clear h176
   refine dk 6 (v := .int .i64 s.stream) h177 rfl rfl ⟨hB167, hk171⟩ (fun x hx => (rn_load1 rfl rfl Try.isAgg3 (hx.2.cell rfl))) fun a178 h178 => ?_; clear h177
   refine dk0 7 (v := pt b 0) h178 rfl rfl ⟨hB167, hk171⟩ fun a179 h179 => ?_; clear h178
   refine dk0 8 (v := pt b 5) h179 rfl rfl ⟨hB167, hk171⟩ fun a180 h180 => ?_; clear h179
   have hk186 := hk148'.kept hg153 (by simp)
   refine d1D 9 h180 rfl rfl (op_store1 rfl rfl rfl rfl Try.sizeOf3 hk186 rfl) ?_ ?_; clear h180
   ·
    rintro _ w182 ⟨hk183, hz184, hg185⟩
    have hk183' : Blk w182 b 90 #[.int .i64 L.boot, .int .i64 (L.stream + 1), .int .i64 0, u, .int .i64 0, .int .i64 s.boot, .int .i64 L.in0, .int .i64 L.next, .bool L.owes] := hk183; clear hk183
    have hz187 := hg185.size
    have hB188 := fbU_at hB167 hg185 (fun hlt => by rcases hSb with hq | hq; exact hq; omega)
    have hk189 := hk171.kept hg185 (by simp; omega)
    exact ⟨hB188, hk189⟩
   rintro _ w182 a181 ⟨hk183, hz184, hg185⟩ h181
   have hk183' : Blk w182 b 90 #[.int .i64 L.boot, .int .i64 (L.stream + 1), .int .i64 0, u, .int .i64 0, .int .i64 s.boot, .int .i64 L.in0, .int .i64 L.next, .bool L.owes] := hk183; clear hk183
   have hz187 := hg185.size
   have hB188 := fbU_at hB167 hg185 (fun hlt => by rcases hSb with hq | hq; exact hq; omega)
   have hk189 := hk171.kept hg185 (by simp; omega)
   refine dk0 10 (v := pt b 0) h181 rfl rfl ⟨hB188, hk189⟩ fun a190 h190 => ?_; clear h181
   refine dk0 11 (v := pt b 6) h190 rfl rfl ⟨hB188, hk189⟩ fun a191 h191 => ?_; clear h190
   refine d1D 12 h191 rfl rfl (op_store1 rfl rfl rfl rfl Try.sizeOf3 hk183' rfl) ?_ ?_; clear h191
   ·
    rintro _ w193 ⟨hk194, hz195, hg196⟩
    have hk194' : Blk w193 b 90 #[.int .i64 L.boot, .int .i64 (L.stream + 1), .int .i64 0, u, .int .i64 0, .int .i64 s.boot, .int .i64 s.stream, .int .i64 L.next, .bool L.owes] := hk194; clear hk194
    have hz197 := hg196.size
    have hB198 := fbU_at hB188 hg196 (fun hlt => by rcases hSb with hq | hq; exact hq; omega)
    have hk199 := hk189.kept hg196 (by simp; omega)
    exact ⟨hB198, hk199⟩
   rintro _ w193 a192 ⟨hk194, hz195, hg196⟩ h192
   have hk194' : Blk w193 b 90 #[.int .i64 L.boot, .int .i64 (L.stream + 1), .int .i64 0, u, .int .i64 0, .int .i64 s.boot, .int .i64 s.stream, .int .i64 L.next, .bool L.owes] := hk194; clear hk194
   have hz197 := hg196.size
   have hB198 := fbU_at hB188 hg196 (fun hlt => by rcases hSb with hq | hq; exact hq; omega)
   have hk199 := hk189.kept hg196 (by simp; omega)
   refine dk0 13 (v := pt b 0) h192 rfl rfl ⟨hB198, hk199⟩ fun a200 h200 => ?_; clear h192
   refine dk0 14 (v := pt b 7) h200 rfl rfl ⟨hB198, hk199⟩ fun a201 h201 => ?_; clear h200
   refine d1D 15 h201 rfl rfl (op_store1 rfl rfl rfl rfl Try.sizeOf3 hk194' rfl) ?_ ?_; clear h201
   ·
    rintro _ w203 ⟨hk204, hz205, hg206⟩
    have hk204' : Blk w203 b 90 #[.int .i64 L.boot, .int .i64 (L.stream + 1), .int .i64 0, u, .int .i64 0, .int .i64 s.boot, .int .i64 s.stream, .int .i64 0, .bool L.owes] := hk204; clear hk204
    have hz207 := hg206.size
    have hB208 := fbU_at hB198 hg206 (fun hlt => by rcases hSb with hq | hq; exact hq; omega)
    have hk209 := hk199.kept hg206 (by simp; omega)
    exact ⟨hB208, hk209⟩
   rintro _ w203 a202 ⟨hk204, hz205, hg206⟩ h202
   have hk204' : Blk w203 b 90 #[.int .i64 L.boot, .int .i64 (L.stream + 1), .int .i64 0, u, .int .i64 0, .int .i64 s.boot, .int .i64 s.stream, .int .i64 0, .bool L.owes] := hk204; clear hk204
   have hz207 := hg206.size
   refine dr_done (by kernel_rfl) ?_
   refine co_blockN ?_
   refine co_ret0n h202 rfl ?_
   have hB208 := fbU_at hB198 hg206 (fun hlt => by rcases hSb with hq | hq; exact hq; omega)
   have hE : Blk w203 b 90 (lnC (knowT L s) u) := by
     unfold knowT; first
     | (rw [if_pos (by omega), if_pos (by omega)]; exact hk204')
     | (rw [if_pos (by omega), if_neg (by omega)]; exact hk204')
     | (rw [if_neg (by omega), if_pos (by omega)]; exact hk204')
     | (rw [if_neg (by omega), if_neg (by omega)]; exact hk204')
   exact ⟨rfl, hE, hB208⟩
end Go.Proofs.Ytpcbgkmnjmiigaa

/- Package link: below. Conditions: none. -/
namespace Go.Proofs.Ytpcbgkmnjmiigaa
open Go.RowKit Go.PlainAid
set_option linter.unusedVariables false

set_option maxRecDepth 100000 in
theorem lkBelow_blk (b : Nat) (u : Value) (L : LnT) (B0 : Nat) (n : Int) (w : World) (hB : Blk w b 90 #[.int .i64 L.boot, .int .i64 L.stream, .int .i64 L.first, u, .int .i64 L.told, .int .i64 L.peer, .int .i64 L.in0, .int .i64 L.next, .bool L.owes]) (hok : LnOk L) (hR : w.ownsRow B0 9 1 u L.q.length (L.q.flatMap strE)) (hn : 0 ≤ n ∧ n ≤ 1073741824) (hbu : u.ownBlock ≠ some b) :
    Calls Try.prog 56 #[pt b 2, .int .i64 n] w fun e w' => ∃ (u' : Value), e = .returned (.int .i64 (goneN L n : Int)) ∧ Blk w' b 90 #[.int .i64 L.boot, .int .i64 L.stream, .int .i64 (L.first + (goneN L n : Int)), u', .int .i64 L.told, .int .i64 L.peer, .int .i64 L.in0, .int .i64 L.next, .bool L.owes] ∧ w'.ownsRow w.heap.size 9 1 u' (L.q.drop (goneN L n)).length ((L.q.drop (goneN L n)).flatMap strE) ∧ But (fun q => q = b) w w' := by
 have hB0 := But.refl (fun q => q = b) w
 have hl_hB := hB.lt
 obtain ⟨⟨k1, k2⟩, ⟨k3, k4⟩, ⟨k5, k6⟩, ⟨k7, k8⟩, ⟨k9, k10⟩, ⟨k11, k12⟩, ⟨k13, k14⟩, k15, k16⟩ := id hok
 have hSb : (fun q => q = b) b ∨ w.heap.size ≤ b := .inl rfl
 refine co_enter (n := 38) Try.func56 rfl rfl rfl [(0, pt b 2), (1, .int .i64 n)] rfl (fun a h0 => ?_)
 refine co_seq ?_
 refine co_reg ?_
 refine pk0 (v := .int .i64 0) h0 rfl fun a1 h1 => ?_; clear h0
 refine pl_nil ?_
 refine co_then ?_
 refine co_seq ?_
 refine dr_eq (by kernel_rfl) (fun w2 hg3 => ?_)
 have hz4 := hg3.size
 refine dk0 0 (v := .int .i64 n) h1 rfl rfl rfl fun a5 h5 => ?_; clear h1
 refine dk0 1 (v := pt b 2) h5 rfl rfl rfl fun a6 h6 => ?_; clear h5
 refine dk0 2 (v := pt b 2) h6 rfl rfl rfl fun a7 h7 => ?_; clear h6
 refine dk0 3 (v := pt b 2) h7 rfl rfl rfl fun a8 h8 => ?_; clear h7
 have hk9 := hB.kept hg3 (by simp)
 refine dk 4 (v := .int .i64 L.first) h8 rfl rfl rfl (fun x hx => by subst hx; exact (rn_load1 rfl rfl Try.isAgg3 (hk9.cell rfl))) fun a10 h10 => ?_; clear h8
 refine dk 5 (v := .int .i64 (n - L.first)) h10 rfl rfl rfl (fun x hx => by subst hx; exact (rn_arith rfl rfl rfl rfl rfl rfl (IntWalk.i64_in _ (by omega)))) fun a11 h11 => ?_; clear h10
 by_cases hs12 : n - L.first < 0
 ·
  refine dk 6 (v := .int .i64 0) h11 rfl rfl rfl (fun x hx => by subst hx; exact (rn_max2 rfl rfl rfl rfl (by omega))) fun a13 h13 => ?_; clear h11
  refine dk0 7 (v := pt b 2) h13 rfl rfl rfl fun a14 h14 => ?_; clear h13
  refine dk0 8 (v := pt b 2) h14 rfl rfl rfl fun a15 h15 => ?_; clear h14
  refine dk0 9 (v := pt b 3) h15 rfl rfl rfl fun a16 h16 => ?_; clear h15
  refine dk 10 (v := u) h16 rfl rfl rfl (fun x hx => by subst hx; exact (rn_load1 rfl rfl Try.isAgg37 (hk9.cell rfl))) fun a17 h17 => ?_; clear h16
  have hr18 := row_kept_new hR hg3
  refine dk 11 (v := .int .i64 ((L.q.length : Nat) : Int)) h17 rfl rfl rfl (fun x hx => by subst hx; exact (rn_lenOwn rfl rfl Try.underlying37 hr18)) fun a19 h19 => ?_; clear h17
  refine dk 12 (v := .int .i64 0) h19 rfl rfl rfl (fun x hx => by subst hx; exact (rn_min1 rfl rfl rfl rfl (by omega))) fun a20 h20 => ?_; clear h19
  refine dk0 13 (v := .int .i64 0) h20 rfl rfl rfl fun a21 h21 => ?_; clear h20
  refine dr_done (by kernel_rfl) ?_
  refine co_then ?_
  refine co_seq ?_
  refine co_reg ?_
  refine pk0 (v := pt b 2) h21 rfl fun a22 h22 => ?_; clear h21
  refine pk0 (v := pt b 2) h22 rfl fun a23 h23 => ?_; clear h22
  refine pk0 (v := pt b 2) h23 rfl fun a24 h24 => ?_; clear h23
  refine pk (v := .int .i64 L.first) h24 rfl (rn_load1 rfl rfl Try.isAgg3 (hk9.cell rfl)) fun a25 h25 => ?_; clear h24
  refine pk0 (v := .int .i64 0) h25 rfl fun a26 h26 => ?_; clear h25
  refine pk (v := .int .i64 (L.first + 0)) h26 rfl (rn_arith rfl rfl rfl rfl rfl rfl (IntWalk.i64_in _ (by omega))) fun a27 h27 => ?_; clear h26
  refine pk0 (v := pt b 2) h27 rfl fun a28 h28 => ?_; clear h27
  refine pk0 (v := pt b 2) h28 rfl fun a29 h29 => ?_; clear h28
  refine pwD h29 rfl (op_store1 rfl rfl rfl rfl Try.sizeOf3 hk9 rfl) ?_; clear h29
  rintro _ w31 a30 ⟨hk32, hz33, hg34⟩ h30
  have hk32' : Blk w31 b 90 #[.int .i64 L.boot, .int .i64 L.stream, .int .i64 (L.first + 0), u, .int .i64 L.told, .int .i64 L.peer, .int .i64 L.in0, .int .i64 L.next, .bool L.owes] := hk32; clear hk32
  have hz35 := hg34.size
  refine pl_nil ?_
  refine co_then ?_
  refine co_seq ?_
  refine co_reg ?_
  refine pk0 (v := pt b 2) h30 rfl fun a36 h36 => ?_; clear h30
  refine pk0 (v := pt b 2) h36 rfl fun a37 h37 => ?_; clear h36
  refine pk0 (v := pt b 2) h37 rfl fun a38 h38 => ?_; clear h37
  refine pk0 (v := pt b 3) h38 rfl fun a39 h39 => ?_; clear h38
  refine pk (v := u) h39 rfl (rn_load1 rfl rfl Try.isAgg37 (hk32'.cell rfl)) fun a40 h40 => ?_; clear h39
  refine pk0 (v := .int .i64 0) h40 rfl fun a41 h41 => ?_; clear h40
  have hr42 := row_kept_at hr18 hg34 (hbu)
  refine pk (v := subV u 0 L.q.length 1) h41 rfl (rn_sliceFrom rfl rfl rfl Try.underlying37 Try.sizeOf9 (row_sl hr42 strE_len) (by omega) (by omega)) fun a43 h43 => ?_; clear h41
  obtain ⟨base47, hb_base47⟩ : ∃ b, b = w31.heap.size := ⟨_, rfl⟩
  have hr46 := row_nilL w31 base47 9 1 strE
  refine pw h43 rfl (op_appendSrc rfl base47 9 (z := .string (⟨#[]⟩)) (size := 1) (bytes := 16) Try.underlying37 (by kernel_rfl) rfl rfl rfl hr46 rfl (sl_drop (row_sl hr42 strE_len) _ (by omega)) (fun y hy => ⟨strE_len y, strE_one y⟩) (by first | omega | (simp only [List.length_nil, List.length_append, List.length_cons, List.length_take, List.length_drop]; omega)) (by first | omega | (simp only [List.length_nil, List.length_append, List.length_cons, List.length_take, List.length_drop]; omega)) (by omega)) ?_; clear h43
  rintro v48 w45 a44 ⟨hr49, hg50⟩ h44
  have hr49' : w45.ownsRow base47 9 1 v48 ((L.q.drop 0).length) ((L.q.drop 0).flatMap strE) := row_app (l := []) hr49; clear hr49
  have hz52 := hg50.size
  refine pk0 (v := pt b 2) h44 rfl fun a53 h53 => ?_; clear h44
  refine pk0 (v := pt b 3) h53 rfl fun a54 h54 => ?_; clear h53
  have hk60 := hk32'.kept hg50 (own_neT hr46 hk32' (by decide))
  refine pwD h54 rfl (op_store1 rfl rfl rfl (row_one hr49') Try.sizeOf37 hk60 rfl) ?_; clear h54
  rintro _ w56 a55 ⟨hk57, hz58, hg59⟩ h55
  have hk57' : Blk w56 b 90 #[.int .i64 L.boot, .int .i64 L.stream, .int .i64 (L.first + 0), v48, .int .i64 L.told, .int .i64 L.peer, .int .i64 L.in0, .int .i64 L.next, .bool L.owes] := hk57; clear hk57
  have hz61 := hg59.size
  refine pl_nil ?_
  refine co_then ?_
  refine co_seq ?_
  refine co_reg ?_
  refine pk0 (v := .int .i64 0) h55 rfl fun a62 h62 => ?_; clear h55
  refine pk0 (v := .int .i64 0) h62 rfl fun a63 h63 => ?_; clear h62
  refine pl_nil ?_
  refine co_then ?_
  refine wp_ret ?_
  refine co_ret1 h63 rfl rfl ?_
  have hr64 := row_kept_at hr49' hg59 (own_neT hr49' hk60 (by decide))
  have hB65 := fbU_new hB0 hg3
  have hB66 := fbU_at hB65 hg34 (fun hlt => by rcases hSb with hq | hq; exact hq; omega)
  have hB67 := fbU_row hB66 (InS.low hr46 (by omega)) hg50
  have hB68 := fbU_at hB67 hg59 (fun hlt => by rcases hSb with hq | hq; exact hq; omega)
  have hg : ((goneN L n : Nat) : Int) = (0 : Int) := by unfold goneN; omega
  exact ⟨_, ret_int hg.symm, (by have h := hk57'; first | exact h | (rw [hg]; exact h) | (rw [hg, Int.add_zero]; exact h) | (rw [hg]; simpa using h)), (row_eq (row_lows hr64 (by omega)) (by congr 1; unfold goneN; omega)), hB68⟩
 ·
  refine dk 6 (v := .int .i64 (n - L.first)) h11 rfl rfl rfl (fun x hx => by subst hx; exact (rn_max1 rfl rfl rfl rfl (by omega))) fun a69 h69 => ?_; clear h11
  refine dk0 7 (v := pt b 2) h69 rfl rfl rfl fun a70 h70 => ?_; clear h69
  refine dk0 8 (v := pt b 2) h70 rfl rfl rfl fun a71 h71 => ?_; clear h70
  refine dk0 9 (v := pt b 3) h71 rfl rfl rfl fun a72 h72 => ?_; clear h71
  refine dk 10 (v := u) h72 rfl rfl rfl (fun x hx => by subst hx; exact (rn_load1 rfl rfl Try.isAgg37 (hk9.cell rfl))) fun a73 h73 => ?_; clear h72
  have hr74 := row_kept_new hR hg3
  refine dk 11 (v := .int .i64 ((L.q.length : Nat) : Int)) h73 rfl rfl rfl (fun x hx => by subst hx; exact (rn_lenOwn rfl rfl Try.underlying37 hr74)) fun a75 h75 => ?_; clear h73
  by_cases hs76 : ((L.q.length : Nat) : Int) < n - L.first
  ·
   refine dk 12 (v := .int .i64 ((L.q.length : Nat) : Int)) h75 rfl rfl rfl (fun x hx => by subst hx; exact (rn_min2 rfl rfl rfl rfl (by omega))) fun a77 h77 => ?_; clear h75
   refine dk0 13 (v := .int .i64 ((L.q.length : Nat) : Int)) h77 rfl rfl rfl fun a78 h78 => ?_; clear h77
   refine dr_done (by kernel_rfl) ?_
   refine co_then ?_
   refine co_seq ?_
   refine co_reg ?_
   refine pk0 (v := pt b 2) h78 rfl fun a79 h79 => ?_; clear h78
   refine pk0 (v := pt b 2) h79 rfl fun a80 h80 => ?_; clear h79
   refine pk0 (v := pt b 2) h80 rfl fun a81 h81 => ?_; clear h80
   refine pk (v := .int .i64 L.first) h81 rfl (rn_load1 rfl rfl Try.isAgg3 (hk9.cell rfl)) fun a82 h82 => ?_; clear h81
   refine pk0 (v := .int .i64 ((L.q.length : Nat) : Int)) h82 rfl fun a83 h83 => ?_; clear h82
   refine pk (v := .int .i64 (L.first + ((L.q.length : Nat) : Int))) h83 rfl (rn_arith rfl rfl rfl rfl rfl rfl (IntWalk.i64_in _ (by omega))) fun a84 h84 => ?_; clear h83
   refine pk0 (v := pt b 2) h84 rfl fun a85 h85 => ?_; clear h84
   refine pk0 (v := pt b 2) h85 rfl fun a86 h86 => ?_; clear h85
   refine pwD h86 rfl (op_store1 rfl rfl rfl rfl Try.sizeOf3 hk9 rfl) ?_; clear h86
   rintro _ w88 a87 ⟨hk89, hz90, hg91⟩ h87
   have hk89' : Blk w88 b 90 #[.int .i64 L.boot, .int .i64 L.stream, .int .i64 (L.first + ((L.q.length : Nat) : Int)), u, .int .i64 L.told, .int .i64 L.peer, .int .i64 L.in0, .int .i64 L.next, .bool L.owes] := hk89; clear hk89
   have hz92 := hg91.size
   refine pl_nil ?_
   refine co_then ?_
   refine co_seq ?_
   refine co_reg ?_
   refine pk0 (v := pt b 2) h87 rfl fun a93 h93 => ?_; clear h87
   refine pk0 (v := pt b 2) h93 rfl fun a94 h94 => ?_; clear h93
   refine pk0 (v := pt b 2) h94 rfl fun a95 h95 => ?_; clear h94
   refine pk0 (v := pt b 3) h95 rfl fun a96 h96 => ?_; clear h95
   refine pk (v := u) h96 rfl (rn_load1 rfl rfl Try.isAgg37 (hk89'.cell rfl)) fun a97 h97 => ?_; clear h96
   refine pk0 (v := .int .i64 ((L.q.length : Nat) : Int)) h97 rfl fun a98 h98 => ?_; clear h97
   have hr99 := row_kept_at hr74 hg91 (hbu)
   refine pk (v := subV u L.q.length L.q.length 1) h98 rfl (rn_sliceFrom rfl rfl rfl Try.underlying37 Try.sizeOf9 (row_sl hr99 strE_len) (by omega) (by omega)) fun a100 h100 => ?_; clear h98
   obtain ⟨base104, hb_base104⟩ : ∃ b, b = w88.heap.size := ⟨_, rfl⟩
   have hr103 := row_nilL w88 base104 9 1 strE
   refine pw h100 rfl (op_appendSrc rfl base104 9 (z := .string (⟨#[]⟩)) (size := 1) (bytes := 16) Try.underlying37 (by kernel_rfl) rfl rfl rfl hr103 rfl (sl_drop (row_sl hr99 strE_len) _ (by omega)) (fun y hy => ⟨strE_len y, strE_one y⟩) (by first | omega | (simp only [List.length_nil, List.length_append, List.length_cons, List.length_take, List.length_drop]; omega)) (by first | omega | (simp only [List.length_nil, List.length_append, List.length_cons, List.length_take, List.length_drop]; omega)) (by omega)) ?_; clear h100
   rintro v105 w102 a101 ⟨hr106, hg107⟩ h101
   have hr106' : w102.ownsRow base104 9 1 v105 ((L.q.drop L.q.length).length) ((L.q.drop L.q.length).flatMap strE) := row_app (l := []) hr106; clear hr106
   have hz109 := hg107.size
   refine pk0 (v := pt b 2) h101 rfl fun a110 h110 => ?_; clear h101
   refine pk0 (v := pt b 3) h110 rfl fun a111 h111 => ?_; clear h110
   have hk117 := hk89'.kept hg107 (own_neT hr103 hk89' (by decide))
   refine pwD h111 rfl (op_store1 rfl rfl rfl (row_one hr106') Try.sizeOf37 hk117 rfl) ?_; clear h111
   rintro _ w113 a112 ⟨hk114, hz115, hg116⟩ h112
   have hk114' : Blk w113 b 90 #[.int .i64 L.boot, .int .i64 L.stream, .int .i64 (L.first + ((L.q.length : Nat) : Int)), v105, .int .i64 L.told, .int .i64 L.peer, .int .i64 L.in0, .int .i64 L.next, .bool L.owes] := hk114; clear hk114
   have hz118 := hg116.size
   refine pl_nil ?_
   refine co_then ?_
   refine co_seq ?_
   refine co_reg ?_
   refine pk0 (v := .int .i64 ((L.q.length : Nat) : Int)) h112 rfl fun a119 h119 => ?_; clear h112
   refine pk0 (v := .int .i64 ((L.q.length : Nat) : Int)) h119 rfl fun a120 h120 => ?_; clear h119
   refine pl_nil ?_
   refine co_then ?_
   refine wp_ret ?_
   refine co_ret1 h120 rfl rfl ?_
   have hr121 := row_kept_at hr106' hg116 (own_neT hr106' hk117 (by decide))
   have hB122 := fbU_new hB0 hg3
   have hB123 := fbU_at hB122 hg91 (fun hlt => by rcases hSb with hq | hq; exact hq; omega)
   have hB124 := fbU_row hB123 (InS.low hr103 (by omega)) hg107
   have hB125 := fbU_at hB124 hg116 (fun hlt => by rcases hSb with hq | hq; exact hq; omega)
   have hg : ((goneN L n : Nat) : Int) = (((L.q.length : Nat) : Int) : Int) := by unfold goneN; omega
   exact ⟨_, ret_int hg.symm, (by have h := hk114'; first | exact h | (rw [hg]; exact h) | (rw [hg, Int.add_zero]; exact h) | (rw [hg]; simpa using h)), (row_eq (row_lows hr121 (by omega)) (by congr 1; unfold goneN; omega)), hB125⟩
  ·
   refine dk 12 (v := .int .i64 (n - L.first)) h75 rfl rfl rfl (fun x hx => by subst hx; exact (rn_min1 rfl rfl rfl rfl (by omega))) fun a126 h126 => ?_; clear h75
   refine dk0 13 (v := .int .i64 (n - L.first)) h126 rfl rfl rfl fun a127 h127 => ?_; clear h126
   refine dr_done (by kernel_rfl) ?_
   refine co_then ?_
   refine co_seq ?_
   refine co_reg ?_
   refine pk0 (v := pt b 2) h127 rfl fun a128 h128 => ?_; clear h127
   refine pk0 (v := pt b 2) h128 rfl fun a129 h129 => ?_; clear h128
   refine pk0 (v := pt b 2) h129 rfl fun a130 h130 => ?_; clear h129
   refine pk (v := .int .i64 L.first) h130 rfl (rn_load1 rfl rfl Try.isAgg3 (hk9.cell rfl)) fun a131 h131 => ?_; clear h130
   refine pk0 (v := .int .i64 (n - L.first)) h131 rfl fun a132 h132 => ?_; clear h131
   refine pk (v := .int .i64 (L.first + (n - L.first))) h132 rfl (rn_arith rfl rfl rfl rfl rfl rfl (IntWalk.i64_in _ (by omega))) fun a133 h133 => ?_; clear h132
   refine pk0 (v := pt b 2) h133 rfl fun a134 h134 => ?_; clear h133
   refine pk0 (v := pt b 2) h134 rfl fun a135 h135 => ?_; clear h134
   refine pwD h135 rfl (op_store1 rfl rfl rfl rfl Try.sizeOf3 hk9 rfl) ?_; clear h135
   rintro _ w137 a136 ⟨hk138, hz139, hg140⟩ h136
   have hk138' : Blk w137 b 90 #[.int .i64 L.boot, .int .i64 L.stream, .int .i64 (L.first + (n - L.first)), u, .int .i64 L.told, .int .i64 L.peer, .int .i64 L.in0, .int .i64 L.next, .bool L.owes] := hk138; clear hk138
   have hz141 := hg140.size
   refine pl_nil ?_
   refine co_then ?_
   refine co_seq ?_
   refine co_reg ?_
   refine pk0 (v := pt b 2) h136 rfl fun a142 h142 => ?_; clear h136
   refine pk0 (v := pt b 2) h142 rfl fun a143 h143 => ?_; clear h142
   refine pk0 (v := pt b 2) h143 rfl fun a144 h144 => ?_; clear h143
   refine pk0 (v := pt b 3) h144 rfl fun a145 h145 => ?_; clear h144
   refine pk (v := u) h145 rfl (rn_load1 rfl rfl Try.isAgg37 (hk138'.cell rfl)) fun a146 h146 => ?_; clear h145
   refine pk0 (v := .int .i64 (n - L.first)) h146 rfl fun a147 h147 => ?_; clear h146
   have hr148 := row_kept_at hr74 hg140 (hbu)
   refine pk (v := subV u ((n - L.first).toNat) L.q.length 1) h147 rfl (rn_sliceFrom rfl rfl rfl Try.underlying37 Try.sizeOf9 (row_sl hr148 strE_len) (by omega) (by omega)) fun a149 h149 => ?_; clear h147
   obtain ⟨base153, hb_base153⟩ : ∃ b, b = w137.heap.size := ⟨_, rfl⟩
   have hr152 := row_nilL w137 base153 9 1 strE
   refine pw h149 rfl (op_appendSrc rfl base153 9 (z := .string (⟨#[]⟩)) (size := 1) (bytes := 16) Try.underlying37 (by kernel_rfl) rfl rfl rfl hr152 rfl (sl_drop (row_sl hr148 strE_len) _ (by omega)) (fun y hy => ⟨strE_len y, strE_one y⟩) (by first | omega | (simp only [List.length_nil, List.length_append, List.length_cons, List.length_take, List.length_drop]; omega)) (by first | omega | (simp only [List.length_nil, List.length_append, List.length_cons, List.length_take, List.length_drop]; omega)) (by omega)) ?_; clear h149
   rintro v154 w151 a150 ⟨hr155, hg156⟩ h150
   have hr155' : w151.ownsRow base153 9 1 v154 ((L.q.drop ((n - L.first).toNat)).length) ((L.q.drop ((n - L.first).toNat)).flatMap strE) := row_app (l := []) hr155; clear hr155
   have hz158 := hg156.size
   refine pk0 (v := pt b 2) h150 rfl fun a159 h159 => ?_; clear h150
   refine pk0 (v := pt b 3) h159 rfl fun a160 h160 => ?_; clear h159
   have hk166 := hk138'.kept hg156 (own_neT hr152 hk138' (by decide))
   refine pwD h160 rfl (op_store1 rfl rfl rfl (row_one hr155') Try.sizeOf37 hk166 rfl) ?_; clear h160
   rintro _ w162 a161 ⟨hk163, hz164, hg165⟩ h161
   have hk163' : Blk w162 b 90 #[.int .i64 L.boot, .int .i64 L.stream, .int .i64 (L.first + (n - L.first)), v154, .int .i64 L.told, .int .i64 L.peer, .int .i64 L.in0, .int .i64 L.next, .bool L.owes] := hk163; clear hk163
   have hz167 := hg165.size
   refine pl_nil ?_
   refine co_then ?_
   refine co_seq ?_
   refine co_reg ?_
   refine pk0 (v := .int .i64 (n - L.first)) h161 rfl fun a168 h168 => ?_; clear h161
   refine pk0 (v := .int .i64 (n - L.first)) h168 rfl fun a169 h169 => ?_; clear h168
   refine pl_nil ?_
   refine co_then ?_
   refine wp_ret ?_
   refine co_ret1 h169 rfl rfl ?_
   have hr170 := row_kept_at hr155' hg165 (own_neT hr155' hk166 (by decide))
   have hB171 := fbU_new hB0 hg3
   have hB172 := fbU_at hB171 hg140 (fun hlt => by rcases hSb with hq | hq; exact hq; omega)
   have hB173 := fbU_row hB172 (InS.low hr152 (by omega)) hg156
   have hB174 := fbU_at hB173 hg165 (fun hlt => by rcases hSb with hq | hq; exact hq; omega)
   have hg : ((goneN L n : Nat) : Int) = (n - L.first : Int) := by unfold goneN; omega
   exact ⟨_, ret_int hg.symm, (by have h := hk163'; first | exact h | (rw [hg]; exact h) | (rw [hg, Int.add_zero]; exact h) | (rw [hg]; simpa using h)), (row_eq (row_lows hr170 (by omega)) (by congr 1; unfold goneN; omega)), hB174⟩
end Go.Proofs.Ytpcbgkmnjmiigaa

/- Package link: add; the document's Send. Conditions: none. -/
namespace Go.Proofs.Ytpcbgkmnjmiigaa
open Go.RowKit Go.PlainAid
set_option linter.unusedVariables false

set_option maxRecDepth 100000 in
theorem lkAdd_any (S : Nat → Prop) (b : Nat) (u : Value) (L : LnT) (t : ByteArray) (w : World) (hU : LkU 90 S w b u L) (hl8 : L.q.length < 8) (ht : t.size ≤ 65536) :
    Calls Try.prog 38 #[pt b 2, .string t] w fun e w' => ∃ (u' : Value), e = .returned (.tuple #[]) ∧ (∃ S' : Nat → Prop, LkU 90 S' w' b u' { L with q := L.q ++ [t] } ∧ Grew S S' w w') ∧ But (S) w w' := by
 have hB0 := But.refl (S) w
 obtain ⟨hB, ⟨B0, hR⟩, hSS, hbu, hok⟩ := id hU
 have hB : Blk w b 90 #[.int .i64 L.boot, .int .i64 L.stream, .int .i64 L.first, u, .int .i64 L.told, .int .i64 L.peer, .int .i64 L.in0, .int .i64 L.next, .bool L.owes] := hB
 have hl_B := hB.lt
 have hR := row_lows hR (Nat.zero_le _)
 have hsb : S b := (hSS b).2 (.inl rfl)
 have hSb : S b ∨ w.heap.size ≤ b := .inl hsb
 obtain ⟨⟨k1, k2⟩, ⟨k3, k4⟩, ⟨k5, k6⟩, ⟨k7, k8⟩, ⟨k9, k10⟩, ⟨k11, k12⟩, ⟨k13, k14⟩, k15, k16⟩ := id hok
 refine co_enter (n := 14) Try.func38 rfl rfl rfl [(0, pt b 2), (1, .string t)] rfl (fun a h0 => ?_)
 refine co_reg ?_
 refine pk0 (v := pt b 2) h0 rfl fun a1 h1 => ?_; clear h0
 refine pk0 (v := pt b 2) h1 rfl fun a2 h2 => ?_; clear h1
 refine pk0 (v := pt b 2) h2 rfl fun a3 h3 => ?_; clear h2
 refine pk0 (v := pt b 3) h3 rfl fun a4 h4 => ?_; clear h3
 refine pk (v := u) h4 rfl (rn_load1 rfl rfl Try.isAgg37 (hB.cell rfl)) fun a5 h5 => ?_; clear h4
 refine pk0 (v := .string t) h5 rfl fun a6 h6 => ?_; clear h5
 refine pw h6 rfl (op_new (v := fun N => .slice (some ⟨N, 0, none⟩) 1 1) (T := 9) (cs := #[.string t]) (by kernel_rfl) (by kernel_rfl) (by kernel_rfl)) ?_; clear h6
 rintro _ w8 a7 ⟨N9, rfl, hN12, hz13, hk11, hg10⟩ h7
 have ha14 := row_fresh hR hN12
 have hu15 := row_under hR hN12
 have hz16 := hg10.size
 try dsimp only at h7
 have hr23 := row_kept_new hR hg10
 refine pw h7 rfl (op_appendF rfl 0 9 (z := .string (⟨#[]⟩)) (size := 1) (bytes := 16) Try.underlying37 (by kernel_rfl) rfl rfl rfl hr23 rfl hk11 rfl (by kernel_rfl) (by first | omega | (simp only [List.length_nil, List.length_append, List.length_cons, List.length_take, List.length_drop]; omega)) (by first | omega | (simp only [List.length_nil, List.length_append, List.length_cons, List.length_take, List.length_drop]; omega)) (by omega)) ?_; clear h7
 rintro v19 w18 a17 ⟨hr20, hwt22, hg21⟩ h17
 have hr20' : w18.ownsRow 0 9 1 v19 ((L.q ++ [t]).length) ((L.q ++ [t]).flatMap strE) := row_push (y := t) hr20 rfl rfl; clear hr20
 have hz24 := hg21.size
 refine pk0 (v := pt b 2) h17 rfl fun a25 h25 => ?_; clear h17
 refine pk0 (v := pt b 3) h25 rfl fun a26 h26 => ?_; clear h25
 have hk32 := hB.kept hg10 (by simp)
 have hk33 := hk32.kept hg21 (hbu)
 refine pwD h26 rfl (op_store1 rfl rfl rfl (row_one hr20') Try.sizeOf37 hk33 rfl) ?_; clear h26
 rintro _ w28 a27 ⟨hk29, hz30, hg31⟩ h27
 have hk29' : Blk w28 b 90 #[.int .i64 L.boot, .int .i64 L.stream, .int .i64 L.first, v19, .int .i64 L.told, .int .i64 L.peer, .int .i64 L.in0, .int .i64 L.next, .bool L.owes] := hk29; clear hk29
 have hz34 := hg31.size
 refine pl_nil ?_
 refine co_ret0n h27 rfl ?_
 have hr35 := row_kept_at hr20' hg31 (own_neT hr20' hk33 (by decide))
 have hB36 := fbU_new hB0 hg10
 have hB37 := fbU_row hB36 (InS.of (fun i hi => (hSS i).2 (.inr hi))) hg21
 have hB38 := fbU_at hB37 hg31 (fun hlt => by rcases hSb with hq | hq; exact hq; omega)
 have hbl : Blk w28 b 90 (lnC ({ L with q := L.q ++ [t] }) v19) := hk29'
 obtain ⟨S', hq1, hq2⟩ := LkU.row2 (L' := { L with q := L.q ++ [t] }) hU hbl hr35 ((InS.of (fun i hi => (hSS i).2 (.inr hi))).went hwt22 (by omega)) (own_neT hr35 hk29' (by decide)) hB38 (by have h := sendT_ok hok t; unfold sendT at h; rwa [if_neg (by omega), if_neg (by omega)] at h)
 exact ⟨_, rfl, ⟨S', hq1, hq2⟩, hB38⟩
end Go.Proofs.Ytpcbgkmnjmiigaa

/- The document's link: In. Conditions: none. -/
namespace Go.Proofs.Ytpcbgkmnjmiigaa
open Go.RowKit Go.PlainAid
set_option linter.unusedVariables false


def l6 (s : SegT) : List Int := [s.boot, s.stream, s.seq, s.ab, s.ast, s.asq]
def bn (s : SegT) (k : Nat) : Bool := ((l6 s).take k).all bnd
theorem bn_step {s : SegT} {k : Nat} {y : Int} (h : bn s k = true) (hy : (l6 s)[k]? = some y) (h2 : 0 ≤ y ∧ y ≤ 1073741824) : bn s (k + 1) = true := by
  unfold bn at *; rw [List.take_add_one, hy]; simp only [Option.toList_some, List.all_append, h, List.all_cons, List.all_nil, bnd_iff.2 h2]; rfl
theorem may_out {s : SegT} {k : Nat} {y : Int} (hy : (l6 s)[k]? = some y) (h2 : y < 0 ∨ 1073741824 < y) : mayT s = false := by
  cases hm : mayT s with
  | false => rfl
  | true =>
    have h := mayT_iff.1 hm
    have : y ∈ l6 s := List.mem_of_getElem? hy
    simp only [l6, List.mem_cons, List.not_mem_nil, or_false] at this
    omega
theorem may_zero {s : SegT} (h : s.boot = 0) : mayT s = false := by
  cases hm : mayT s with
  | false => rfl
  | true => have := mayT_iff.1 hm; omega
theorem may_yes {s : SegT} (h : bn s 6 = true) (h0 : s.boot ≠ 0) : mayT s = true := by
  unfold bn l6 at h
  simp only [List.take_succ_cons, List.take_zero, List.all_cons, List.all_nil, Bool.and_eq_true, bnd_iff] at h
  exact mayT_iff.2 ⟨h.1, h.2.1, h.2.2.1, h.2.2.2.1, h.2.2.2.2.1, h.2.2.2.2.2.1, h0⟩
theorem bn_6 {s : SegT} {k : Nat} (h : bn s k = true) (hk : 6 ≤ k) : bn s 6 = true := by
  unfold bn at *; rw [List.take_of_length_le (by simpa [l6] using hk)] at h; rwa [List.take_of_length_le (by simp [l6])]
theorem knowT_q (L : LnT) (s : SegT) : (knowT L s).q = L.q ∧ (knowT L s).boot = L.boot ∧ (knowT L s).owes = L.owes := by unfold knowT; split <;> (try split) <;> exact ⟨rfl, rfl, rfl⟩
theorem ackT_c (L : LnT) (s : SegT) : (ackT L s).boot = L.boot ∧ (ackT L s).stream = L.stream ∧ (ackT L s).peer = L.peer ∧ (ackT L s).in0 = L.in0 ∧ (ackT L s).next = L.next ∧ (ackT L s).owes = L.owes := by unfold ackT popT; split <;> exact ⟨rfl, rfl, rfl, rfl, rfl, rfl⟩
theorem inT_a {L : LnT} {s : SegT} (h : mayT s = false) : inT L s = ([], 1, L) := by unfold inT; rw [if_pos h]
theorem inT_b {L : LnT} {s : SegT} (h : mayT s = true) (h2 : s.boot < L.peer) : inT L s = ([], 0, L) := by unfold inT; rw [if_neg (by simp [h]), if_pos h2]
theorem inT_c {L A : LnT} {s : SegT} (h : mayT s = true) (h2 : ¬ s.boot < L.peer) (hA : A = ackT (knowT L s) s) (h3 : s.has = false) : inT L s = ([], 0, A) := by unfold inT; rw [if_neg (by simp [h]), if_neg h2, if_pos h3, hA]
theorem inT_d {L A : LnT} {s : SegT} (h : mayT s = true) (h2 : ¬ s.boot < L.peer) (hA : A = ackT (knowT L s) s) (h3 : ¬ s.has = false) (h4 : ¬ (s.ab = L.boot ∧ s.stream = A.in0 ∧ s.seq = A.next)) : inT L s = ([], 0, { A with owes := true }) := by unfold inT; rw [if_neg (by simp [h]), if_neg h2, if_neg h3, ← hA, if_neg h4]
theorem inT_e {L A : LnT} {s : SegT} (h : mayT s = true) (h2 : ¬ s.boot < L.peer) (hA : A = ackT (knowT L s) s) (h3 : ¬ s.has = false) (h4 : s.ab = L.boot ∧ s.stream = A.in0 ∧ s.seq = A.next) : inT L s = ([s.body], 0, { A with owes := true, next := A.next + 1 }) := by unfold inT; rw [if_neg (by simp [h]), if_neg h2, if_neg h3, ← hA, if_pos h4]
theorem ack_n {K A : LnT} {s : SegT} (hA : A = ackT K s) (hK : LnOk K) (h : ¬ (s.ab = K.boot ∧ s.ast = K.stream)) : A = K := by rw [hA]; unfold ackT; rw [if_neg h]
theorem ack_y {K A : LnT} {s : SegT} (hA : A = ackT K s) (h : s.ab = K.boot ∧ s.ast = K.stream) : A = popT K s.asq := by rw [hA]; unfold ackT; rw [if_pos h]
end Go.Proofs.Ytpcbgkmnjmiigaa
