/- Put together: LibZt, PexZt, SlZt, PexBZt, AppZt, PexCZt, PexDZt, PexTZt, MapZt, MapBZt, MapCZt, MapRZt, MapOZt, ButZt, AppStrZt, PexUZt, SortIZt, DiskAZt, DiskBZt, DiskCZt, ZdDZt, ZdEZt, CrcZt, SumAZt, TabZt, VnAZt. Conditions: as each says. -/
import Derived.Test.YtfiplhnplmadmaaDoorRows
import Derived.WalkKit
import Derived.WalkSpells
import Derived.WalkLawsBesides
import Derived.Deep.LoopGhost
import Derived.Lib.Hide
import Derived.Laws.IdiomStrings
import Derived.Lib.QuietBelow
import Derived.BigQuiet
import Derived.PlainAid
import Derived.Lib.SmallJoins
import Derived.Deep.MidRow
import Derived.Deep.RegionHeld3
import Derived.Laws.AppendOwnNone
import Derived.Deep.AppendLies
import Derived.Deep.RegionLaw
import Derived.StringKeys
import Derived.Laws.StructEq
import Derived.Maps.RangeRun
import Derived.MapKept
import Derived.OwnWalk
import Derived.Lib.AppendStr
import Derived.Laws.BytesArg
import Derived.Shelf.Sort.Plain
import Derived.Test.YtfiplhnplmadmaaDoorLayI
/- Small laws on worlds, rows and bounds that the walks of this seat share. Conditions: none. -/
namespace Go.Proofs.YtfiplhnplmadmaaDoor
open Go.RowKit

theorem ret_int {k : IntKind} {a b : Int} (h : a = b) : Ending.returned (.int k a) = .returned (.int k b) := by rw [h]
theorem ret_bool {a b : Bool} (h : a = b) : Ending.returned (.bool a) = .returned (.bool b) := by rw [h]
/-- One new cell, at its block's head. -/
theorem one_cell (w : World) (v : Value) (T : TypeId) : ∀ (j : Nat) u, [v][j]? = some u → (w.alloc (.cells #[v] T)).cell? ((⟨w.heap.size, 0, none⟩ : Addr).add j) = some u := by
  intro j u hj
  match j, hj with
  | 0, hj => simp at hj; subst hj; rw [Addr.add_lit, World.cell?_alloc_mark]; rfl
/-- A row of a world is a row of what comes behind it. -/
theorem row_below {B : Nat} {e : TypeId} {k : Nat} {v : Value} {n : Nat} {xs : List Value} {w w' : World} (h : w.ownsRow B e k v n xs) (hb : Below w.heap.size w w') : w'.ownsRow B e k v n xs := by
  obtain ⟨h1, h2⟩ := h
  refine ⟨h1, ?_⟩
  rcases h2 with h2 | ⟨g, cap, cur, hv, hg, hh, r⟩
  · exact Or.inl h2
  · exact Or.inr ⟨g, cap, cur, hv, hg, by rw [hb.block g (Array.getElem?_eq_some_iff.1 hh).1]; exact hh, r⟩
/-- An owned row of cells of one value each, as a slice: its cells. -/
theorem row_view {w : World} {B : Nat} {e : TypeId} {v : Value} {n : Nat} {xs : List Value} (h : w.ownsRow B e 1 v n xs) :
    ∃ ao c, v = .slice ao n c ∧ n ≤ 9223372036854775807 ∧ ∀ j, j < n → ∃ g, ao = some ⟨g, 0, none⟩ ∧ B ≤ g ∧ w.cell? ⟨g, j, none⟩ = xs[j]? := by
  rcases h.2 with ⟨hv, hn⟩ | ⟨g, cap, cur, hv, hg, _⟩
  · subst hn; exact ⟨none, 0, hv, by omega, fun j hj => absurd hj (by omega)⟩
  · subst hv
    obtain ⟨_, hnc, hcm, _⟩ := ‹_ ∧ _ ∧ _ ∧ _›
    exact ⟨_, _, rfl, by unfold maxLen at hcm; omega, fun j hj => ⟨g, rfl, hg, h.cellAt j (by omega)⟩⟩
theorem below_draws {B : Nat} {w w' : World} (h : Below B w w') (n : Nat) : Below B w (w'.drewN n) := ⟨h.os, h.tape, h.output, h.size, h.block⟩
/-- A cell of a world, read behind it. -/
theorem cell_below {w w' : World} (h : Below w.heap.size w w') {a : Addr} {v : Value} (hc : w.cell? a = some v) : w'.cell? a = some v :=
  (h.cell (World.block_lt_of_cell? w a hc)).trans hc
end Go.Proofs.YtfiplhnplmadmaaDoor

/- Steps of a walk over known slots: what a frame's slots hold is kept as a list; each operation, branch and loop by one law. Conditions: none. -/
namespace Go.Proofs.YtfiplhnplmadmaaDoor
open Go.RowKit

section
variable {P : Program} {n : Nat} {m : List (Nat × Value)} {a : Act} {w : World}

/-- What is known of a frame: its size, that nothing is deferred, what some of its slots hold. -/
structure Slots (n : Nat) (m : List (Nat × Value)) (a : Act) : Prop where
  size : a.tmps.size = n
  defers : a.defers = []
  look : ∀ t v, m.lookup t = some v → a.tmps.getD t undef = v

def ev (m : List (Nat × Value)) : Operand → Option Value
  | .tmp t => m.lookup t
  | .const v => some v
  | .global g => some (.pointer (some ⟨g, 0, none⟩))
  | .func f => some (.func (.func f) #[] #[])
theorem Slots.ev (h : Slots n m a) {x : Operand} {v : Value} (hx : ev m x = some v) : a.eval x = v := by
  cases x with
  | tmp t => exact h.look t v hx
  | const u => simpa [Go.Proofs.YtfiplhnplmadmaaDoor.ev, Act.eval] using hx
  | global g => simpa [Go.Proofs.YtfiplhnplmadmaaDoor.ev, Act.eval] using hx
  | func f => simpa [Go.Proofs.YtfiplhnplmadmaaDoor.ev, Act.eval] using hx
def lk (m : List (Nat × Value)) (x : Operand) : Value := (ev m x).getD undef
def okOps (m : List (Nat × Value)) (o : Op) : Bool := o.operands.all fun x => (ev m x).isSome
theorem Slots.lk (h : Slots n m a) {x : Operand} (hx : (Go.Proofs.YtfiplhnplmadmaaDoor.ev m x).isSome = true) : a.eval x = lk m x := by
  obtain ⟨v, hv⟩ := Option.isSome_iff_exists.1 hx
  rw [h.ev hv]; simp [Go.Proofs.YtfiplhnplmadmaaDoor.lk, hv]
theorem Slots.put {d : Nat} {v : Value} (h : Slots n m a) (hd : d < n) : Slots n ((d, v) :: m) (a.put (some d) v) := by
  obtain ⟨h1, h2, h3⟩ := h
  refine ⟨by simp [Act.put, h1], h2, fun t u ht => ?_⟩
  rw [List.lookup_cons] at ht
  by_cases e : t = d
  · subst e
    simp at ht
    subst ht
    simp [Act.put, h1, hd]
  · have : (t == d) = false := by simpa using e
    rw [this] at ht
    have := h3 t u ht
    simp only [Act.put, Array.getD_eq_getD_getElem?] at this ⊢
    rw [Array.getElem?_setIfInBounds_ne (by omega)]
    exact this
/-- Less is known. -/
def Sub (m : List (Nat × Value)) : List (Nat × Value) → Prop
  | [] => True
  | p :: r => m.lookup p.1 = some p.2 ∧ Sub m r
theorem slot_eq {m : List (Nat × Value)} {t : Nat} {v v' : Value} (h : m.lookup t = some v) (e : v = v') : m.lookup (t, v').1 = some (t, v').2 := by subst e; exact h
theorem Sub.get {m : List (Nat × Value)} : ∀ {l : List (Nat × Value)}, Sub m l → ∀ t v, l.lookup t = some v → m.lookup t = some v
  | [], _, t, v, h => by simp at h
  | p :: r, hs, t, v, h => by
    rw [List.lookup_cons] at h
    by_cases e : t = p.1
    · subst e; simp at h; subst h; exact hs.1
    · have : (t == p.1) = false := by simpa using e
      rw [this] at h
      exact hs.2.get t v h
theorem Slots.sub {l : List (Nat × Value)} (h : Slots n m a) (hs : Sub m l) : Slots n l a := ⟨h.size, h.defers, fun t v ht => h.look t v (hs.get t v ht)⟩
theorem Slots.none {dst : Option Tmp} {v : Value} (h : Slots n m a) (hd : dst = none) : Slots n m (a.put dst v) := by subst hd; exact h

/-- Operation o, in a frame of which m is known and in world w: its value and the world behind it. -/
def Op1 (P : Program) (n : Nat) (m : List (Nat × Value)) (o : Oper) (w : World) (R : Value → World → Prop) : Prop :=
  ∀ a, Slots n m a → ∀ (N : Act → World → Prop) (Q : Exit → Act → World → Prop), (∀ v w', R v w' → N (a.put o.dst v) w') → o.wp P a w N Q

variable {o : Oper} {ops : Array Oper} {rest : List Oper} {Q : Exit → Act → World → Prop} {R : Value → World → Prop}
theorem op_run {v : Value} {w' : World} (hok : okOps m o.op = true) (hsel : (match o.op with | .select .. => true | _ => false) = false) (hrun : (execOp (lk m) o).run P w = .ok (.value v) w') : Op1 P n m o w (fun u x => u = v ∧ x = w') := by
  intro a ha N Q h
  have he : execOp a.eval o = execOp (lk m) o := execOp_congr o (fun cs b e => by simp [e] at hsel) (fun x hx => ha.lk (Array.all_eq_true_iff_forall_mem.1 hok x hx))
  unfold Oper.wp
  rw [he, hrun]
  exact h _ _ ⟨rfl, rfl⟩
theorem Op1.mono {R' : Value → World → Prop} (h : Op1 P n m o w R) (hr : ∀ v w', R v w' → R' v w') : Op1 P n m o w R' := fun a ha N Q hN => h a ha N Q fun v w' hv => hN v w' (hr v w' hv)
/-- A call of a Go function. -/
theorem op_call {c : Call} {x : Operand} {f : FuncId} {args : Array Value} {E : Ending → World → Prop} (ho : o.op = .call c) (hc : c.callee = .value x) (hf : ev m x = some (.func (.func f) #[] #[]))
    (hok : okOps m o.op = true) (hargs : c.args.map (lk m) = args) (hcall : (callFunc f args).run P w = .ok (.enter f args) w) (h : Calls P f args w E) (hE : ∀ e w', E e w' → ∃ v, e = .returned v ∧ R v w') : Op1 P n m o w R := by
  intro a ha N Q hN
  have he : execOp a.eval o = execOp (lk m) o := execOp_congr o (fun cs b e => by simp [e] at ho) (fun x hx => ha.lk (Array.all_eq_true_iff_forall_mem.1 hok x hx))
  unfold Oper.wp
  rw [he]
  have hfx : lk m x = .func (.func f) #[] #[] := by simp [lk, hf]
  have : (execOp (lk m) o).run P w = .ok (.enter f args) w := by
    simp only [execOp, ho, resolve, hc, hfx, Deferred.ofValue, hargs, Sem.run_bind, Sem.run_pure, Result.andThen_ok, invoke]
    simpa using hcall
  rw [this, Oper.upon_enter]
  refine h.mono fun e w' he => ?_
  obtain ⟨v, rfl, hv⟩ := hE e w' he
  exact hN v w' hv
theorem lk_ev {x : Operand} {v : Value} (hx : ev m x = some v) : lk m x = v := by simp [lk, hx]
/-- One cell is loaded. -/
theorem rn_load1 {t : TypeId} {x : Operand} {p : Addr} {v : Value} (ho : o.op = .load t x) (hx : ev m x = some (.pointer (some p))) (ht : ∀ w : World, (isAgg t).run P w = .ok false w) (hc : w.cell? p = some v) : (execOp (lk m) o).run P w = .ok (.value v) w := by
  unfold execOp
  have hl : (Instr.loadAt t (.pointer (some p))).run P w = .ok v w := by
    simp [Instr.loadAt, Instr.sureAddr, loadVar, ht, Sem.run_bind, load, Sem.run, hc]
  simp only [ho, lk_ev hx, Sem.run_bind, hl, Result.andThen_ok, Sem.run_pure]
/-- Several cells are loaded. -/
theorem rn_loadN {t : TypeId} {x : Operand} {b o' : Nat} {cs : List Value} {d : TypeDesc} (ho : o.op = .load t x) (hx : ev m x = some (.pointer (some ⟨b, o', none⟩))) (hu : P.underlying t = some d) (hd : d.isRow = true) (hi : (P.info? t).map (·.size) = some cs.length) (hc : w.rangeAt b o' cs) : (execOp (lk m) o).run P w = .ok (.value (.agg cs.toArray)) w := by
  unfold execOp
  simp only [ho, lk_ev hx, Instr.loadAt, Instr.sureAddr, Sem.run_bind, Sem.run_pure, Result.andThen_ok, run_loadVar_mid w b o' t cs d hc hu hd hi]
/-- An int's sum, difference, product that is in range. -/
theorem rn_arith {op : BinOp} {T T' : TypeId} {x y : Operand} {k : IntKind} {i j z : Int} (ho : o.op = .binOp op T x y T') (hx : ev m x = some (.int k i)) (hy : ev m y = some (.int k j)) (hop : Op.intArith op k i j = .pure (.int k (k.wrap z))) (hne : (op matches .shl | .shr | .eql | .neq) = false) (hcl : binOp op T (.int k i) (.int k j) = Op.intArith op k i j) (hz : k.wrap z = z) : (execOp (lk m) o).run P w = .ok (.value (.int k z)) w := by
  unfold execOp
  have hg : (eqGuard op T x y (.int k i) (.int k j)).run P w = .ok () w := by
    unfold eqGuard
    cases op <;> simp at hne <;> rfl
  simp only [ho, lk_ev hx, lk_ev hy, Sem.run_bind, hg, hcl, hop, hz, Result.andThen_ok]
  rfl

theorem rn_arith' {op : BinOp} {T T' : TypeId} {x y : Operand} {k : IntKind} {i j z z' : Int} (ho : o.op = .binOp op T x y T') (hx : ev m x = some (.int k i)) (hy : ev m y = some (.int k j)) (hop : Op.intArith op k i j = .pure (.int k (k.wrap z))) (hne : (op matches .shl | .shr | .eql | .neq) = false) (hcl : binOp op T (.int k i) (.int k j) = Op.intArith op k i j) (hz : k.wrap z = z) (he : z = z') : (execOp (lk m) o).run P w = .ok (.value (.int k z')) w := by
  subst he; exact rn_arith ho hx hy hop hne hcl hz
theorem rn_conv {S' T : TypeId} {x : Operand} {k k' : IntKind} {i : Int} {d : TypeDesc} (ho : o.op = .convert S' T x) (hx : ev m x = some (.int k' i)) (hS : P.underlying S' = some d) (ht : P.underlying T = some (.int k)) (hz : k.wrap i = i) : (execOp (lk m) o).run P w = .ok (.value (.int k i)) w := by
  unfold execOp
  simp only [ho, lk_ev hx, convert, Sem.run_bind, run_underlying hS, run_underlying ht, Result.andThen_ok]
  cases d <;> simp [Conv.intToInt, hz]
section minmax
variable {ts : Array TypeId} {x y : Operand} {k : IntKind} {i j : Int}
theorem rn_min1 (ho : o.op = .call { callee := .builtin .min, args := #[x, y], argTypes := ts }) (hx : ev m x = some (.int k i)) (hy : ev m y = some (.int k j)) (_h : True = True) (h : i ≤ j) : (execOp (lk m) o).run P w = .ok (.value (.int k i)) w := by
  unfold execOp
  have hn : ¬ j < i := by omega
  simp [ho, lk_ev hx, lk_ev hy, resolve, invoke, builtin, Builtin.min_, Builtin.min2, hn]
theorem rn_min2 (ho : o.op = .call { callee := .builtin .min, args := #[x, y], argTypes := ts }) (hx : ev m x = some (.int k i)) (hy : ev m y = some (.int k j)) (_h : True = True) (h : j < i) : (execOp (lk m) o).run P w = .ok (.value (.int k j)) w := by
  unfold execOp
  simp [ho, lk_ev hx, lk_ev hy, resolve, invoke, builtin, Builtin.min_, Builtin.min2, h]
end minmax

/-! ### A plain region -/
theorem pl_nil (h : Q .normal a w) : wpList P ops Q [] a w := h
theorem getD_some {tmps : Array Value} {t : Nat} {b : Bool} (h : tmps.getD t undef = .bool b) : tmps[t]? = some (.bool b) := by
  rw [Array.getD_eq_getD_getElem?] at h
  cases hx : tmps[t]? with
  | none => rw [hx] at h; simp [undef] at h
  | some u => rw [hx] at h; simp at h; rw [h]
/-- Is a guarded operation wanted? -/
def wantB (m : List (Nat × Value)) (ops : Array Oper) (o : Oper) : Option Bool :=
  match o.guard with
  | none => some true
  | some (g, b) => match ((ops[g]?).bind (·.dst)).bind (m.lookup ·) with
    | some (.bool c) => some (c == b)
    | some (.tuple _) => some false
    | _ => none
theorem Slots.wants {c : Bool} (hs : Slots n m a) (h : wantB m ops o = some c) : Region.wanted o (yielded ops a.tmps) = c := by
  unfold wantB at h
  unfold Region.wanted
  cases hg : o.guard with
  | none => rw [hg] at h; simpa using h
  | some p =>
    obtain ⟨g, b⟩ := p
    rw [hg] at h
    simp only at h ⊢
    cases hd : (ops[g]?).bind (·.dst) with
    | none => rw [hd] at h; simp at h
    | some d =>
      rw [hd] at h
      simp only [Option.bind_some] at h
      cases hm : m.lookup d with
      | none => rw [hm] at h; simp at h
      | some u =>
        rw [hm] at h
        cases u <;> simp at h
        · rename_i q
          have := getD_some (hs.look d _ hm)
          simp [yielded, hd, this, h]
        · rename_i q
          subst h
          have h1 := hs.look d _ hm
          rw [Array.getD_eq_getD_getElem?] at h1
          have h2 : yielded ops a.tmps g = Option.none := by
            unfold yielded
            rw [hd]
            simp only [Option.bind_some]
            cases hx : a.tmps[d]? with
            | none => rfl
            | some u => rw [hx] at h1; simp at h1; subst h1; rfl
          rw [h2]; rfl
theorem pl_want {d : Nat} (hs : Slots n m a) (hg : wantB m ops o = some true) (hd : o.dst = some d) (hdn : Nat.blt d n = true) (h1 : Op1 P n m o w R)
    (h : ∀ v w' a', R v w' → Slots n ((d, v) :: m) a' → wpList P ops Q rest a' w') : wpList P ops Q (o :: rest) a w :=
  wpList_step fun K hK => by
    rw [if_pos (hs.wants hg)]
    exact h1 a hs K Q fun v w' hv => hK _ _ (h v w' _ hv (by rw [hd]; exact hs.put (by simpa using hdn)))
theorem pl_doW (hs : Slots n m a) (hg : wantB m ops o = some true) (hd : o.dst = none) (h1 : Op1 P n m o w R)
    (h : ∀ v w' a', R v w' → Slots n m a' → wpList P ops Q rest a' w') : wpList P ops Q (o :: rest) a w :=
  wpList_step fun K hK => by
    rw [if_pos (hs.wants hg)]
    exact h1 a hs K Q fun v w' hv => hK _ _ (h v w' _ hv (hs.none hd))
theorem pl_skip {d : Nat} (hs : Slots n m a) (hg : wantB m ops o = some false) (hd : o.dst = some d) (hdn : Nat.blt d n = true)
    (h : ∀ a', Slots n ((d, undef) :: m) a' → wpList P ops Q rest a' w) : wpList P ops Q (o :: rest) a w :=
  wpList_step fun K hK => by
    rw [if_neg (by simp [hs.wants hg])]
    exact hK _ _ (h _ (by rw [hd]; exact hs.put (by simpa using hdn)))

/-- An operation that leaves the world as it is. -/
theorem pl_val {d : Nat} {v : Value} (hs : Slots n m a) (hg : wantB m ops o = some true) (hd : o.dst = some d) (hdn : Nat.blt d n = true) (hok : okOps m o.op = true) (hsel : (match o.op with | .select .. => true | _ => false) = false) (hrun : (execOp (lk m) o).run P w = .ok (.value v) w)
    (h : ∀ a', Slots n ((d, v) :: m) a' → wpList P ops Q rest a' w) : wpList P ops Q (o :: rest) a w :=
  pl_want hs hg hd hdn (op_run hok hsel hrun) fun _ _ a' ⟨h1, h2⟩ hs' => by subst h1 h2; exact h a' hs'
/-! ### A region that draws its order -/
variable {md : Region.Mode} {S : World → Prop} {fuel : Nat} {listed : Array Bool} {i d : Nat}
abbrev NP (Q : Exit → Act → World → Prop) := NoPanic Q
theorem dr_start {id : Nat} {l : List Oper} (hm : P.follows .mixedOrders = true) (hS : S w.drew) (h : wpAnyH P .any l.toArray (NP Q) S l.length (Array.replicate l.length false) a w.drew) : (Code.region id l.toArray true).wp P Q a w :=
  wp_region_noPanic (wp_region_held_drew (S := S) hm hS fun _ => by simpa using h)
/-- Number i, which yields v in every world that meets S, is taken first. -/
theorem dr_take {v : Value} (hs : Slots n m a) (ho : ops[i]? = some o) (hsel : Region.noSelect ops = true) (hf : Region.free md ops listed i = true) (hr : (Region.ready md ops listed).contains i = true)
    (hw : wantB m ops o = some true) (hd : o.dst = some d) (hdn : Nat.blt d n = true) (hS : S w) (hok : okOps m o.op = true) (hrun : ∀ w, S w → (execOp (lk m) o).run P w = .ok (.value v) w)
    (h : ∀ a', Slots n ((d, v) :: m) a' → wpAnyH P md ops (NP Q) S fuel (listed.setIfInBounds i true) a' w) : wpAnyH P md ops (NP Q) S (fuel + 1) listed a w := by
  have he : execOp a.eval o = execOp (lk m) o := execOp_congr o (fun cs b e => Region.noSelect_spec hsel i o cs b ho e) (fun x hx => hs.lk (Array.all_eq_true_iff_forall_mem.1 hok x hx))
  refine wpAnyH_take ho hsel hf hr (fun _ _ _ h => h) (Or.inl ⟨hs.wants hw, fun w' hw' => by rw [he]; exact hrun w' hw'⟩) hS ?_
  exact h _ (by rw [hd]; exact hs.put (by simpa using hdn))
/-- Number i alone may come up. -/
theorem dr_one (hs : Slots n m a) (ho : ops[i]? = some o) (hr : Region.ready md ops listed = [i]) (hw : wantB m ops o = some true) (hd : o.dst = some d) (hdn : Nat.blt d n = true) (h1 : Op1 P n m o w R) (hS : ∀ v w', R v w' → S w')
    (h : ∀ v w' a', R v w' → Slots n ((d, v) :: m) a' → wpAnyH P md ops (NP Q) S fuel (listed.setIfInBounds i true) a' w') : wpAnyH P md ops (NP Q) S (fuel + 1) listed a w := by
  refine wpAnyH_all hr (by simp) fun j hj => ?_
  simp only [List.mem_singleton] at hj
  subst hj
  unfold wpOp
  simp only [ho, hs.wants hw, if_true]
  exact .inl (h1 a hs _ _ fun v w' hv => ⟨hS v w' hv, h v w' _ hv (by rw [hd]; exact hs.put (by simpa using hdn))⟩)
theorem dr_oneDo (hs : Slots n m a) (ho : ops[i]? = some o) (hr : Region.ready md ops listed = [i]) (hw : wantB m ops o = some true) (hd : o.dst = none) (h1 : Op1 P n m o w R) (hS : ∀ v w', R v w' → S w')
    (h : ∀ v w' a', R v w' → Slots n m a' → wpAnyH P md ops (NP Q) S fuel (listed.setIfInBounds i true) a' w') : wpAnyH P md ops (NP Q) S (fuel + 1) listed a w := by
  refine wpAnyH_all hr (by simp) fun j hj => ?_
  simp only [List.mem_singleton] at hj
  subst hj
  unfold wpOp
  simp only [ho, hs.wants hw, if_true]
  exact .inl (h1 a hs _ _ fun v w' hv => ⟨hS v w' hv, h v w' _ hv (hs.none hd)⟩)
theorem dr_done (hr : Region.ready md ops listed = []) (h : Q .normal a w) : wpAnyH P md ops (NP Q) S fuel listed a w := wpAnyH_done hr (NoPanic.normal h) fuel

/-! ### Code -/
theorem co_seq {x y : Code} (h : x.wp P (Exit.then (y.wp P Q) Q) a w) : (Code.seq x y).wp P Q a w := wp_seq h
theorem co_reg {id : Nat} {l : List Oper} (h : wpList P l.toArray Q l a w) : (Code.region id l.toArray false).wp P Q a w := wp_region_lit h
theorem co_then {K : Act → World → Prop} (h : K a w) : Exit.then K Q .normal a w := h
theorem co_true {c : Operand} {x y : Code} (hs : Slots n m a) (hc : ev m c = some (.bool true)) (h : x.wp P Q a w) : (Code.cond c x y).wp P Q a w := wp_cond_true (hs.ev hc) h
theorem co_false {c : Operand} {x y : Code} (hs : Slots n m a) (hc : ev m c = some (.bool false)) (h : y.wp P Q a w) : (Code.cond c x y).wp P Q a w := wp_cond_false (hs.ev hc) h
theorem co_loop {c : Code} (I : Nat → Act → World → Prop) (k : Nat) (h₀ : I k a w) (round : ∀ k a w, I k a w → c.wp P (Exit.then (fun a' w' => ∃ k', k' < k ∧ I k' a' w') Q) a w) : (Code.loop c).wp P Q a w := wp_loop_ghost I k h₀ round
theorem co_thenX {K : Act → World → Prop} {i : Nat} (h : Q (.exit i) a w) : Exit.then K Q (.exit i) a w := h
theorem co_thenR {K : Act → World → Prop} (h : Q .ret a w) : Exit.then K Q .ret a w := h
theorem co_blockN {i : Nat} (h : Q .normal a w) : Exit.inBlock i Q .normal a w := h
theorem co_blockX {i : Nat} (h : Q .normal a w) : Exit.inBlock i Q (.exit i) a w := by simpa [Exit.inBlock] using h
theorem co_blockR {i : Nat} (h : Q .ret a w) : Exit.inBlock i Q .ret a w := h
/-- The call begins. -/
theorem q0 {K : Act → World → Prop} (h : K a w) : Code.skip.wp P (Exit.then K Q) a w := wp_skip h
theorem q1 {K : Act → World → Prop} (h : K a w) : wpList P ops (Exit.then K Q) [] a w := h
theorem q2 {id : Nat} {l : List Oper} {y : Code} (h : wpList P l.toArray (Exit.then (y.wp P Q) Q) l a w) : (Code.seq (Code.region id l.toArray false) y).wp P Q a w := co_seq (co_reg h)
theorem q9 {id : Nat} {l : List Oper} {y z : Code} (h : wpList P l.toArray (Exit.then (y.wp P (Exit.then (z.wp P Q) Q)) (Exit.then (z.wp P Q) Q)) l a w) : (Code.seq (Code.seq (Code.region id l.toArray false) y) z).wp P Q a w := co_seq (q2 h)
theorem q3 {Q' : Exit → Act → World → Prop} {id : Nat} {l : List Oper} {y : Code} (h : wpList P l.toArray (Exit.then (y.wp P Q) Q) l a w) : wpList P ops (Exit.then ((Code.seq (Code.region id l.toArray false) y).wp P Q) Q') [] a w := q1 (q2 h)
theorem q6 {Q' : Exit → Act → World → Prop} {id : Nat} {l : List Oper} {y z : Code} (h : wpList P l.toArray (Exit.then (y.wp P (Exit.then (z.wp P Q) Q)) (Exit.then (z.wp P Q) Q)) l a w) : wpList P ops (Exit.then ((Code.seq (Code.seq (Code.region id l.toArray false) y) z).wp P Q) Q') [] a w := q1 (q9 h)
theorem q7 {Q' : Exit → Act → World → Prop} {id : Nat} {l : List Oper} {y : Code} (h : wpList P l.toArray (Exit.then (y.wp P Q) Q) l a w) : Code.skip.wp P (Exit.then ((Code.seq (Code.region id l.toArray false) y).wp P Q) Q') a w := q0 (q2 h)
theorem q8 {Q' : Exit → Act → World → Prop} {id : Nat} {l : List Oper} {y z : Code} (h : wpList P l.toArray (Exit.then (y.wp P (Exit.then (z.wp P Q) Q)) (Exit.then (z.wp P Q) Q)) l a w) : Code.skip.wp P (Exit.then ((Code.seq (Code.seq (Code.region id l.toArray false) y) z).wp P Q) Q') a w := q0 (q9 h)
theorem q4 {Q' : Exit → Act → World → Prop} (h : Q .ret a w) : wpList P ops (Exit.then (Code.ret.wp P Q) Q') [] a w := q1 (wp_ret h)
theorem q5 {K : Act → World → Prop} {Q' : Exit → Act → World → Prop} (h : Q .ret a w) : wpList P ops (Exit.then (Code.ret.wp P (Exit.then K Q)) Q') [] a w := q4 h
theorem qr {K : Act → World → Prop} {i : Nat} (h : Q .ret a w) : Exit.inBlock i (Exit.then K Q) .ret a w := h
theorem qx {K : Act → World → Prop} {i : Nat} (h : K a w) : Exit.inBlock i (Exit.then K Q) (.exit i) a w := co_blockX h
theorem co_enter {f : FuncId} {fn : Func} {c : Code} {args : Array Value} {E : Ending → World → Prop} (hf : P.funcs[f]? = some fn) (hb : fn.body = some c) (hn : fn.ntmps = n) (hl : Nat.ble args.size n = true) (m : List (Nat × Value)) (hm : m = args.toList.zipIdx.map fun p => (p.2, p.1))
    (h : ∀ a, Slots n m a → c.wp P (bodyPost P fn E) a w) : Calls P f args w E := by
  have hl := Nat.le_of_ble_eq_true hl
  refine calls_of_wp hf hb (h _ ⟨by simp [hn]; omega, rfl, fun t v ht => ?_⟩)
  subst hm
  have hlk : ∀ (l : List Value) (k t : Nat) v, ((l.zipIdx k).map fun p => (p.2, p.1)).lookup t = some v → k ≤ t ∧ l[t - k]? = some v := by
    intro l
    induction l with
    | nil => intro k t v h; simp at h
    | cons x l ih =>
      intro k t v h
      rw [List.zipIdx_cons, List.map_cons, List.lookup_cons] at h
      by_cases e : t = k
      · subst e; simp at h; subst h; simp
      · have hb : (t == k) = false := by simpa using e
        rw [hb] at h
        obtain ⟨h1, h2⟩ := ih (k + 1) t v h
        refine ⟨by omega, ?_⟩
        rw [show t - k = (t - (k + 1)) + 1 by omega, List.getElem?_cons_succ]; exact h2
  obtain ⟨_, h2⟩ := hlk _ 0 t v ht
  simp only [Nat.sub_zero, Array.getElem?_toList] at h2
  rw [Array.getD_eq_getD_getElem?, Array.getElem?_append_left (Array.getElem?_eq_some_iff.1 h2).1, h2]; rfl
/-- The call ends. -/
theorem co_ret1 {fn : Func} {E : Ending → World → Prop} {t : Nat} {v : Value} (hs : Slots n m a) (hr : fn.results = #[.tmp t]) (ht : m.lookup t = some v) (h : E (.returned v) w) : bodyPost P fn E .ret a w := by
  have := hs.look t v ht
  exact bodyPost_ret (results_tmp hr a.tmps P w) hs.defers (by rw [this]; exact h)
theorem co_ret2 {fn : Func} {E : Ending → World → Prop} {t u : Nat} {v x : Value} (hs : Slots n m a) (hr : fn.results = #[.tmp t, .tmp u]) (ht : m.lookup t = some v) (hu : m.lookup u = some x) (h : E (.returned (.tuple #[v, x])) w) : bodyPost P fn E .ret a w := by
  have h1 := hs.look t v ht
  have h2 := hs.look u x hu
  exact bodyPost_ret (results_tmp2 hr a.tmps P w) hs.defers (by rw [h1, h2]; exact h)
theorem co_ret0n {fn : Func} {E : Ending → World → Prop} (hs : Slots n m a) (hr : fn.results = #[]) (h : E (.returned (.tuple #[])) w) : bodyPost P fn E .normal a w :=
  bodyPost_end (results_none hr a.tmps P w) hs.defers h
end
end Go.Proofs.YtfiplhnplmadmaaDoor

/- Slices that are read, whatever their elements: their cells; a struct that is loaded out of one; an append from one. Conditions: none. -/
namespace Go.Proofs.YtfiplhnplmadmaaDoor
open Go.RowKit

/-- The slice v reads as the list l: each element's cells are what enc says, sz of them. -/
def SliceOf {α : Type} (enc : α → List Value) (sz : Nat) (w : World) (v : Value) (l : List α) : Prop :=
  ∃ ao cap, v = .slice ao l.length cap ∧ l.length ≤ cap ∧ cap ≤ 9223372036854775807 ∧ (ao = none → l.length = 0 ∧ cap = 0) ∧
    ∀ j (h : j < l.length), ∃ b off, ao = some ⟨b, off, none⟩ ∧ w.rangeAt b (off + j * sz) (enc l[j])

theorem SliceOf.below {α : Type} {enc : α → List Value} {sz : Nat} {w w' : World} {v : Value} {l : List α} (h : SliceOf enc sz w v l) (hb : Below w.heap.size w w') : SliceOf enc sz w' v l := by
  obtain ⟨ao, cap, hv, h1, h2, h3, h4⟩ := h
  refine ⟨ao, cap, hv, h1, h2, h3, fun j hj => ?_⟩
  obtain ⟨b, off, e, hr⟩ := h4 j hj
  exact ⟨b, off, e, fun i u hu => cell_below hb (hr i u hu)⟩
theorem SliceOf.nil {α : Type} (enc : α → List Value) (sz : Nat) (w : World) : SliceOf enc sz w (.slice none 0 0) ([] : List α) :=
  ⟨none, 0, rfl, by simp, by omega, fun _ => ⟨rfl, rfl⟩, fun j hj => absurd hj (by simp)⟩
/-- One integer a cell. -/
def intE (k : IntKind) (n : Int) : List Value := [.int k n]
/-- The cells of rows of one size, one behind the other. -/
theorem flat_at {α : Type} {enc : α → List Value} {size : Nat} : ∀ (l : List α) (q r : Nat) (hql : q < l.length), (∀ y ∈ l, (enc y).length = size) → r < size → (l.flatMap enc)[q * size + r]? = (enc l[q])[r]?
  | [], q, r, hql, _, _ => absurd hql (by simp)
  | y :: l, 0, r, _, hy, hr => by
    rw [List.flatMap_cons, Nat.zero_mul, Nat.zero_add, List.getElem?_append_left (by rw [hy y (by simp)]; exact hr)]; rfl
  | y :: l, q + 1, r, hql, hy, hr => by
    rw [List.flatMap_cons, List.getElem?_append_right (by rw [hy y (by simp), Nat.add_mul]; omega), hy y (by simp), show (q + 1) * size + r - size = q * size + r by rw [Nat.add_mul]; omega]
    exact flat_at l q r (by simpa using hql) (fun z hz => hy z (by simp [hz])) hr
theorem flat_len {α : Type} {enc : α → List Value} {size : Nat} : ∀ (l : List α), (∀ y ∈ l, (enc y).length = size) → (l.flatMap enc).length = l.length * size
  | [], _ => by simp
  | y :: l, hy => by rw [List.flatMap_cons, List.length_append, hy y (by simp), flat_len l (fun z hz => hy z (by simp [hz])), List.length_cons, Nat.add_mul]; omega
/-- A row of the call's own. -/
theorem SliceOf.own {α : Type} {enc : α → List Value} {sz : Nat} {w : World} {B : Nat} {e : TypeId} {v : Value} {l : List α} (h : w.ownsRow B e sz v l.length (l.flatMap enc)) (hsz : ∀ x ∈ l, (enc x).length = sz) : SliceOf enc sz w v l := by
  rcases h.2 with ⟨hv, hn⟩ | ⟨g, cap, cur, hv, hg, _, hnc, hcm, _⟩
  · obtain rfl : l = [] := List.eq_nil_of_length_eq_zero hn
    rw [hv]; exact SliceOf.nil _ _ _
  · refine ⟨some ⟨g, 0, none⟩, cap, hv, hnc, by unfold maxLen at hcm; omega, fun h => by (cases h), fun j hj => ⟨g, 0, rfl, fun i u hu => ?_⟩⟩
    have hi : i < sz := by rw [← hsz _ (List.getElem_mem hj)]; exact (List.getElem?_eq_some_iff.1 hu).1
    have hlt : j * sz + i < l.length * sz := by
      have : (j + 1) * sz ≤ l.length * sz := Nat.mul_le_mul_right _ hj
      rw [Nat.add_mul] at this; omega
    have hc := h.cells (g := g) (by rw [hv]; rfl) (j * sz + i) u
    rw [Addr.add_lit] at hc
    rw [Nat.zero_add]; rw [Nat.zero_add] at hc
    exact hc (by rw [flat_at l j i hj hsz hi]; exact hu)

/-- 'append(out, src...)', out the call's own, src any slice that reads as news: nil, empty or not. -/
theorem wpList_append_src {P : Program} {w : World} {ops : Array Oper} {rest : List Oper} {o : Oper} {a : Act} {Q : Exit → Act → World → Prop} (hgd : o.guard = none) (s x : Operand) (t : TypeId)
    (ho : o.op = .call { callee := .builtin .append, args := #[s, x], argTypes := #[t, t] })
    (base : Nat) (e : TypeId) (i : TypeInfo) (z : Value) (size bytes : Nat) (ht : P.underlying t = some (.slice e)) (hi : P.info? e = some i) (hz : i.zero = some z)
    (hsize : i.size = size) (hby : i.bytes = bytes) (hzs : z.cells.size = size) (hsz : 0 < size)
    (v : Value) (n : Nat) (xs : List Value) (hs : a.eval s = v) (hown : w.ownsRow base e size v n xs)
    {α : Type} (enc : α → List Value) (l : List α) (vs : Value) (hx : a.eval x = vs) (hsl : SliceOf enc size w vs l) (hen : ∀ y ∈ l, (enc y).length = size ∧ ∀ u ∈ enc y, u.oneCell' = true)
    (h63 : n + l.length ≤ maxLen) (hbytes : (n + l.length) * bytes ≤ 140737488355328) (hbase : base ≤ w.heap.size)
    (h : ∀ v' w', w'.ownsRow base e size v' (n + l.length) (xs ++ l.flatMap enc) → w.grownBy w' v.ownBlock → wpList P ops Q rest (a.put o.dst v') w') : wpList P ops Q (o :: rest) a w := by
  obtain ⟨ao, cap, rfl, _, _, hnil, hcell⟩ := hsl
  have hl := flat_len l (fun y hy => (hen y hy).1)
  cases ao with
  | none =>
    obtain ⟨e0, e1⟩ := hnil rfl
    obtain rfl : l = [] := List.eq_nil_of_length_eq_zero e0
    subst e1
    exact wpList_append_own_none hgd s x t ho base e i size ht hi v n xs hs hown (by simpa using hx) (h v w (by simpa using hown) (World.grownBy.refl _ _))
  | some ad =>
    refine wpList_append_own _ hgd s x t ho base e i z size bytes ht hi hz hsize hby hzs hsz v n xs hs hown ad l.length cap (l.flatMap enc) hx hl ?_ ?_ h63 hbytes hbase (fun v' w' h1 h2 _ => h v' w' h1 h2)
    · intro j u hu
      have hj : j < l.length * size := by rw [← hl]; exact (List.getElem?_eq_some_iff.1 hu).1
      have hq : j / size < l.length := Nat.div_lt_of_lt_mul (by rw [Nat.mul_comm]; exact hj)
      obtain ⟨b, off, hb, hr⟩ := hcell _ hq
      cases hb
      rw [Addr.add_lit]
      have hdm : j / size * size + j % size = j := by rw [Nat.mul_comm]; exact Nat.div_add_mod j size
      have hr' := hr (j % size) u
      rw [Nat.add_assoc, hdm] at hr'
      refine hr' ?_
      rw [← flat_at l (j / size) (j % size) hq (fun y hy => (hen y hy).1) (Nat.mod_lt _ hsz), hdm]; exact hu
    · intro u hu
      obtain ⟨y, hy, huy⟩ := List.mem_flatMap.1 hu
      exact (hen y hy).2 u huy
end Go.Proofs.YtfiplhnplmadmaaDoor

/- Steps of a walk over known slots: blocks of the call's own, rows that grow, slices that came in. Conditions: none. -/
namespace Go.Proofs.YtfiplhnplmadmaaDoor
open Go.RowKit

/-- Block N of world w holds just these cells, and may be written. -/
def Blk (w : World) (N : Nat) (T : TypeId) (cs : Array Value) : Prop := w.heap[N]? = some (.cells cs T (0, 0))
section
variable {P : Program} {n : Nat} {m : List (Nat × Value)} {w x : World} {o : Oper} {N : Nat} {T : TypeId} {cs : Array Value}
theorem Blk.lt (h : Blk w N T cs) : N < w.heap.size := (Array.getElem?_eq_some_iff.1 h).1
theorem Blk.cell (h : Blk w N T cs) {k : Nat} {v : Value} (hk : cs[k]? = some v) : w.cell? ⟨N, k, none⟩ = some v := by
  unfold World.cell?; rw [show w.heap[N]? = _ from h]; simpa using hk
theorem Blk.frozen (h : Blk w N T cs) (k : Nat) : w.frozen? ⟨N, k, none⟩ = false := by
  unfold World.frozen?; rw [show w.heap[N]? = _ from h]; simp
theorem Blk.range (h : Blk w N T cs) (k : Nat) (l : List Value) (hl : ∀ j v, l[j]? = some v → cs[k + j]? = some v) : w.rangeAt N k l := fun j v hv => h.cell (hl j v hv)
theorem Blk.all (h : Blk w N T cs) : w.rangeAt N 0 cs.toList := fun j v hv => h.cell (by simpa using hv)
theorem Blk.kept {row : Option Nat} (h : Blk w N T cs) (hg : w.grownBy x row) (hne : row ≠ some N) : Blk x N T cs := by
  unfold Blk at *; rw [hg.block N (Array.getElem?_eq_some_iff.1 h).1 (fun e => hne e.symm)]; exact h
theorem Blk.below (h : Blk w N T cs) (hb : Below w.heap.size w x) : Blk x N T cs := by
  unfold Blk at *; rw [hb.block N (Array.getElem?_eq_some_iff.1 h).1]; exact h
theorem grown_below (hg : w.grownBy x none) : Below w.heap.size w x := ⟨hg.os, hg.tape, hg.output, hg.size, fun k hk => hg.block k hk (by simp)⟩
theorem below_grown (hb : Below w.heap.size w x) : w.grownBy x none := ⟨hb.os, hb.tape, hb.output, hb.size, fun k hk _ => hb.block k hk⟩
theorem hb_new {w0 : World} (h : Below w0.heap.size w0 w) (hg : w.grownBy x none) : Below w0.heap.size w0 x := h.grown hg h.size (fun _ e => by cases e)
theorem hb_at {w0 : World} (h : Below w0.heap.size w0 w) (hg : w.grownBy x (some N)) (hN : w0.heap.size ≤ N) : Below w0.heap.size w0 x := h.grown hg h.size (fun k e => by cases e; exact hN)
theorem hb_call {w0 : World} (h : Below w0.heap.size w0 w) (hb : Below w.heap.size w x) : Below w0.heap.size w0 x := h.trans (hb.mono h.size)
theorem hb_row {w0 : World} {B : Nat} {e : TypeId} {sz k : Nat} {v : Value} {xs : List Value} (h : Below w0.heap.size w0 w) (hr : w.ownsRow B e sz v k xs) (hB : w0.heap.size ≤ B) (hg : w.grownBy x v.ownBlock) : Below w0.heap.size w0 x :=
  h.grown hg h.size (fun k e => by have := (hr.lt k e).1; omega)

theorem row_kept_new {B : Nat} {e : TypeId} {sz k : Nat} {v : Value} {xs : List Value} (h : w.ownsRow B e sz v k xs) (hg : w.grownBy x none) : x.ownsRow B e sz v k xs :=
  h.kept hg (by cases v.ownBlock <;> simp)
theorem row_kept_at {B : Nat} {e : TypeId} {sz k : Nat} {v : Value} {xs : List Value} (h : w.ownsRow B e sz v k xs) (hg : w.grownBy x (some N)) (hne : v.ownBlock ≠ some N) : x.ownsRow B e sz v k xs := h.kept hg (.inr hne)
/-- Rows of two types lie apart. -/
theorem row_kept_row {B B' : Nat} {e e' : TypeId} {sz sz' k k' : Nat} {v v' : Value} {xs ys : List Value} (h : w.ownsRow B e sz v k xs) (h' : w.ownsRow B' e' sz' v' k' ys) (hg : w.grownBy x v'.ownBlock) (hne : e ≠ e') : x.ownsRow B e sz v k xs := by
  refine h.kept hg ?_
  cases hv : v.ownBlock with
  | none => exact .inl rfl
  | some g =>
    refine .inr fun e1 => ?_
    rcases h.2 with ⟨rfl, _⟩ | ⟨g1, _, _, rfl, _, hg1, _⟩
    · simp [Value.ownBlock] at hv
    · rcases h'.2 with ⟨rfl, _⟩ | ⟨g2, _, _, rfl, _, hg2, _⟩
      · simp [Value.ownBlock] at e1
      · simp [Value.ownBlock] at hv e1
        subst hv
        rw [← e1, hg1] at hg2
        simp at hg2
        exact hne hg2.2
/-- A variable, a struct, an array that is made. -/
theorem op_new {v : Nat → Value} (hok : okOps m o.op = true) (hsel : (match o.op with | .select .. => true | _ => false) = false) (hrun : (execOp (lk m) o).run P w = .ok (.value (v w.heap.size)) (w.alloc (.cells cs T))) :
    Op1 P n m o w (fun u x => ∃ N, u = v N ∧ N = w.heap.size ∧ x.heap.size = N + 1 ∧ Blk x N T cs ∧ w.grownBy x none) :=
  (op_run hok hsel hrun).mono fun u x ⟨h1, h2⟩ => by
    subst h2
    exact ⟨w.heap.size, h1, rfl, by simp, heap_alloc_new w _, World.grownBy_alloc w _ none⟩
theorem setCell_blk (h : Blk w N T cs) (k : Nat) (v : Value) : Blk (w.setCell ⟨N, k, none⟩ v) N T (cs.setIfInBounds k v) := by
  have hlt := (Array.getElem?_eq_some_iff.1 h).1
  have hx := (Array.getElem?_eq_some_iff.1 h).2
  unfold Blk World.setCell
  simp only [Array.getElem?_modify, if_true]
  rw [show w.heap[N]? = _ from h]
  simp
theorem grown_setCell (w : World) (N k : Nat) (v : Value) : w.grownBy (w.setCell ⟨N, k, none⟩ v) (some N) := ⟨rfl, rfl, rfl, by simp [World.setCell], fun j _ hj => Below.heap_setCell w _ v j (fun e => hj (by rw [e]))⟩
/-- A store of one cell into a block of the call's own. -/
theorem op_store1 {t : TypeId} {p q : Operand} {k : Nat} {v : Value} (ho : o.op = .store t p q) (hp : ev m p = some (.pointer (some ⟨N, k, none⟩))) (hq : ev m q = some v) (h1 : v.oneCell' = true) (hs : ∀ w : World, (sizeOf t).run P w = .ok 1 w)
    (hb : Blk w N T cs) (hk : Nat.blt k cs.size = true) : Op1 P n m o w (fun _ x => Blk x N T (cs.setIfInBounds k v) ∧ x.heap.size = w.heap.size ∧ w.grownBy x (some N)) := by
  intro a ha K Q hN
  have hk' : k < cs.size := by simpa using hk
  have hc : w.cell? ⟨N, k, none⟩ = some cs[k] := hb.cell (by simp [hk'])
  have hcell : v.cells = #[v] := by cases v <;> simp_all [Value.cells, Value.oneCell']
  have hrun : (Instr.storeAt t (.pointer (some ⟨N, k, none⟩)) v).run P w = .ok () (w.setCell ⟨N, k, none⟩ v) := by
    have h2 := run_storeCells_cells (P := P) N k [v] 0 w (fun j hj => by simp at hj; subst hj; simp [hc]) (fun j hj => by simpa using hb.frozen _) (by simpa using h1)
    simp only [Nat.add_zero] at h2
    simp [Instr.storeAt, Instr.sureAddr, storeVar, hcell, hs, Sem.run_bind, h2, World.setCells]
  unfold Oper.wp execOp
  simp only [ho, ha.ev hp, ha.ev hq, Sem.run_bind, hrun, Result.andThen_ok, Sem.run_pure]
  exact hN _ _ ⟨setCell_blk hb k v, by simp [World.setCell], grown_setCell w N k v⟩
theorem setCells_blk : ∀ (vs : List Value) (w : World) (cs : Array Value) (k : Nat), Blk w N T cs → k + vs.length ≤ cs.size → Blk (w.setCells N k vs) N T (cs.toList.take k ++ vs ++ cs.toList.drop (k + vs.length)).toArray
  | [], w, cs, k, h, _ => by simpa [World.setCells] using h
  | v :: r, w, cs, k, h, hl => by
    simp only [List.length_cons] at hl
    have := setCells_blk r (w.setCell ⟨N, k, none⟩ v) (cs.setIfInBounds k v) (k + 1) (setCell_blk h k v) (by simp; omega)
    rw [World.setCells]
    have e : ((cs.setIfInBounds k v).toList.take (k + 1) ++ r ++ (cs.setIfInBounds k v).toList.drop (k + 1 + r.length)) = cs.toList.take k ++ (v :: r) ++ cs.toList.drop (k + (r.length + 1)) := by
      simp only [Array.toList_setIfInBounds]
      rw [List.take_set, List.drop_set_of_lt (by omega), show k + 1 + r.length = k + (r.length + 1) by omega]
      have : (List.take (k + 1) cs.toList).set k v = cs.toList.take k ++ [v] := by
        rw [List.take_succ_eq_append_getElem (by simp; omega)]
        have hl : (List.take k cs.toList).length = k := by simp; omega
        rw [List.set_append, hl, if_neg (by omega)]
        simp
      rw [this]; simp
    rw [List.length_cons, ← e]; exact this
/-- A store of a whole value into a block of the call's own. -/
theorem op_storeN {t : TypeId} {p q : Operand} {cells : Array Value} (ho : o.op = .store t p q) (hp : ev m p = some (.pointer (some ⟨N, 0, none⟩))) (hq : ev m q = some (.agg cells)) (h1 : cells.all (·.oneCell') = true) (hi : (P.info? t).map (·.size) = some cells.size)
    (hb : Blk w N T cs) (hk : cs.size = cells.size) : Op1 P n m o w (fun _ x => Blk x N T cells ∧ x.heap.size = w.heap.size ∧ w.grownBy x (some N)) := by
  intro a ha K Q hN
  have hthere : w.there N 0 cells.size := fun j hj => ⟨by rw [hb.cell (k := 0 + j) (v := cs[j]) (by simp [hk, hj])]; rfl, hb.frozen _⟩
  refine wp_store_mid t p q ho N 0 cells (ha.ev hp) (ha.ev hq) hthere hi h1 (hN _ _ ⟨?_, ?_, ?_⟩)
  · have := setCells_blk cells.toList w cs 0 hb (by simp [hk])
    have e : (cells.toList ++ List.drop cells.size cs.toList).toArray = cells := by rw [List.drop_eq_nil_of_le (by simp [hk])]; simp
    simp only [List.take_zero, List.nil_append, Nat.zero_add, Array.length_toList, e] at this
    exact this
  · have hsz : ∀ (vs : List Value) (k : Nat) (w : World), (w.setCells N k vs).heap.size = w.heap.size := by
      intro vs
      induction vs with
      | nil => intro k w; rfl
      | cons v r ih => intro k w; rw [World.setCells, ih]; simp [World.setCell]
    exact hsz _ _ _
  · have hg : ∀ (vs : List Value) (k : Nat) (w : World), w.grownBy (w.setCells N k vs) (some N) := by
      intro vs
      induction vs with
      | nil => intro k w; exact World.grownBy.refl _ _
      | cons v r ih => intro k w; rw [World.setCells]; exact (grown_setCell w N k v).trans (ih _ _)
    exact hg _ _ _
/-- 'append(v, news..)', v a row of the call's own. -/
theorem op_append {s q : Operand} {t : TypeId} (ho : o.op = .call { callee := .builtin .append, args := #[s, q], argTypes := #[t, t] })
    (base : Nat) (e : TypeId) {z : Value} {size bytes : Nat} (ht : P.underlying t = some (.slice e)) (hi : (P.info? e).map (fun i => (i.zero, i.size, i.bytes)) = some (some z, size, bytes))
    (hzs : z.cells.size = size) (hsz : Nat.blt 0 size = true) {v : Value} {k : Nat} {xs : List Value} (hs : ev m s = some v) (hown : w.ownsRow base e size v k xs)
    {M q' c : Nat} {ws : Array Value} {T' : TypeId} (hx : ev m q = some (.slice (some ⟨M, 0, none⟩) q' c)) (hb : Blk w M T' ws) (hl : ws.size = q' * size) (h1 : ws.all (·.oneCell') = true)
    (h63 : k + q' ≤ 9223372036854775807) (hbytes : (k + q') * bytes ≤ 140737488355328) (hbase : base ≤ w.heap.size) :
    Op1 P n m o w (fun u x => x.ownsRow base e size u (k + q') (xs ++ ws.toList) ∧ w.grownBy x v.ownBlock) := by
  intro a ha K Q hN
  obtain ⟨i0, hii, hz0, hz1, hz2⟩ := info_parts hi
  refine wp_append_own w s q t ho base e i0 z size bytes ht hii hz0 hz1 hz2 hzs (by simpa using hsz) v k xs (ha.ev hs) hown ⟨M, 0, none⟩ q' c ws.toList (ha.ev hx) (by simpa using hl) ?_ ?_ (by unfold maxLen; exact h63) hbytes hbase (fun v' w' h2 h3 _ => hN _ _ ⟨h2, h3⟩)
  · intro j u hu
    rw [Addr.add_lit, Nat.zero_add]
    exact hb.cell (by simpa using hu)
  · intro u hu
    exact (Array.all_eq_true_iff_forall_mem.1 h1) u (by simpa using hu)

/-! ### A region that draws its order begins -/
section
variable {Q : Exit → Act → World → Prop} {a : Act}
theorem drew_grown (w : World) : w.grownBy w.drew none := ⟨rfl, rfl, rfl, Nat.le_refl _, fun _ _ _ => rfl⟩
theorem dr_eq {id : Nat} {l : List Oper} (hm : P.follows .mixedOrders = true) (h : ∀ wd, w.grownBy wd none → wpAnyH P .any l.toArray (NP Q) (fun x => x = wd) l.length (Array.replicate l.length false) a wd) : (Code.region id l.toArray true).wp P Q a w :=
  dr_start (S := fun x => x = w.drew) hm rfl (h _ (drew_grown w))
theorem dr_gen {id : Nat} {l : List Oper} (S : World → Prop) (hm : P.follows .mixedOrders = true) (hS : ∀ wd, w.grownBy wd none → S wd) (h : ∀ wd, w.grownBy wd none → wpAnyH P .any l.toArray (NP Q) S l.length (Array.replicate l.length false) a wd) : (Code.region id l.toArray true).wp P Q a w :=
  dr_start hm (hS _ (drew_grown w)) (h _ (drew_grown w))
end

/-! ### Slices that came in: the value is whatever it is, its place is told by two functions -/
def blkOf : Value → Nat
  | .slice (some a) _ _ => a.block
  | _ => 0
def offOf : Value → Nat
  | .slice (some a) _ _ => a.off
  | _ => 0
variable {α : Type} {enc : α → List Value} {sz : Nat} {v : Value} {l : List α}
theorem sl_len (h : SliceOf enc sz w v l) : l.length ≤ 9223372036854775807 := by obtain ⟨_, _, _, h1, h2, _⟩ := h; omega
theorem sl_at (h : SliceOf enc sz w v l) {i : Nat} {y : α} (hy : l[i]? = some y) : w.rangeAt (blkOf v) (offOf v + i * sz) (enc y) := by
  obtain ⟨ao, cap, rfl, _, _, _, hc⟩ := h
  obtain ⟨hi, e⟩ := List.getElem?_eq_some_iff.1 hy
  obtain ⟨b, off, rfl, hr⟩ := hc i hi
  rw [← e]; exact hr
/-- 'len(v)' -/
theorem rn_len {t : TypeId} {q : Operand} (ho : o.op = .call { callee := .builtin .len, args := #[q], argTypes := #[t] }) (hq : ev m q = some v) {e : TypeId} (ht : P.underlying t = some (.slice e)) (h : SliceOf enc sz w v l) : (execOp (lk m) o).run P w = .ok (.value (.int .i64 (l.length : Nat))) w := by
  obtain ⟨ao, cap, rfl, _, _, _, hc⟩ := h
  unfold execOp
  simp [ho, resolve, invoke, builtin, Sem.run_bind, lk_ev hq, Builtin.len_, goInt, run_underlying ht]
theorem rn_lenOwn {t : TypeId} {q : Operand} {base : Nat} {e : TypeId} {k : Nat} {xs : List Value} (ho : o.op = .call { callee := .builtin .len, args := #[q], argTypes := #[t] }) (hq : ev m q = some v) {e' : TypeId} (ht : P.underlying t = some (.slice e')) (h : w.ownsRow base e sz v k xs) : (execOp (lk m) o).run P w = .ok (.value (.int .i64 (k : Nat))) w := by
  rcases h.2 with ⟨rfl, rfl⟩ | ⟨g, cap, cur, rfl, _⟩
  · unfold execOp
    simp [ho, resolve, invoke, builtin, Sem.run_bind, lk_ev hq, Builtin.len_, goInt, run_underlying ht]
  · unfold execOp
    simp [ho, resolve, invoke, builtin, Sem.run_bind, lk_ev hq, Builtin.len_, goInt, run_underlying ht]
theorem rn_lenStr {t : TypeId} {q : Operand} {s : ByteArray} (ho : o.op = .call { callee := .builtin .len, args := #[q], argTypes := #[t] }) (hq : ev m q = some (.string s)) (ht : P.underlying t = some .string) : (execOp (lk m) o).run P w = .ok (.value (.int .i64 (s.size : Nat))) w := by
  unfold execOp
  simp [ho, resolve, invoke, builtin, Sem.run_bind, lk_ev hq, Builtin.len_, goInt, run_underlying ht]
/-- 'v[i]' as an address -/
theorem rn_index {t e : TypeId} {q r : Operand} {k : IntKind} {i : Int} {j : Nat} (ho : o.op = .indexAddr t q r) (hq : ev m q = some v) (hr : ev m r = some (.int k i)) (ht : P.underlying t = some (.slice e)) (hs : ∀ w : World, (sizeOf e).run P w = .ok sz w)
    (h : SliceOf enc sz w v l) (hij : i = (j : Nat)) (hj : j < l.length) : (execOp (lk m) o).run P w = .ok (.value (.pointer (some ⟨blkOf v, offOf v + j * sz, none⟩))) w := by
  subst hij
  obtain ⟨ao, cap, rfl, _, _, _, hc⟩ := h
  obtain ⟨b, off, rfl, _⟩ := hc j hj
  have hrun : (Instr.indexAt t (.slice (some ⟨b, off, none⟩) l.length cap) (.int k j)).run P w = .ok (.pointer (some ⟨b, off + j * sz, none⟩)) w := by
    have h0 : (0 : Int) ≤ (j : Nat) ∧ ((j : Nat) : Int) < (l.length : Nat) := by omega
    simp [Instr.indexAt, asIntOf, run_underlying ht, Sem.run_bind, h0, hs, hj, Addr.add_lit]
  unfold execOp
  simp only [ho, lk_ev hq, lk_ev hr, Sem.run_bind, hrun, Result.andThen_ok, Sem.run_pure]
  rfl
end
end Go.Proofs.YtfiplhnplmadmaaDoor

/- Slices that are cut, and appended from. Conditions: none. -/
namespace Go.Proofs.YtfiplhnplmadmaaDoor
open Go.RowKit Go.PlainAid

theorem SliceOf.sliced {α : Type} {enc : α → List Value} {sz : Nat} {w : World} {ao : Option Addr} {n cap : Nat} {l : List α} (h : SliceOf enc sz w (.slice ao n cap) l) (lo hi : Nat) (h1 : lo ≤ hi) (h2 : hi ≤ l.length) :
    SliceOf enc sz w (sliced ao lo hi cap sz) ((l.take hi).drop lo) := by
  obtain ⟨ao', cap', hv, h1', h2', h3, h4⟩ := h
  injection hv with e1 e2 e3
  subst e1 e2 e3
  have hl : ((l.take hi).drop lo).length = hi - lo := by rw [List.length_drop, List.length_take]; omega
  unfold Go.sliced
  cases ao with
  | none =>
    obtain ⟨e0, e1⟩ := h3 rfl
    subst e1
    have : hi = 0 := by omega
    have : lo = 0 := by omega
    subst lo hi
    exact ⟨none, 0, by simp, by simp, by omega, fun _ => ⟨by simp, rfl⟩, fun j hj => absurd hj (by simp)⟩
  | some a =>
    by_cases hc : cap = lo
    · subst hc
      have : hi = cap := by omega
      subst this
      refine ⟨some a, 0, by rw [hl]; simp, by rw [hl]; omega, by omega, fun h => (by cases h), fun j hj => absurd hj (by rw [hl]; omega)⟩
    · refine ⟨some (a.add (lo * sz)), cap - lo, by rw [hl, if_neg hc]; rfl, by rw [hl]; omega, by omega, fun h => (by cases h), fun j hj => ?_⟩
      rw [hl] at hj
      obtain ⟨b, off, e, hr⟩ := h4 (lo + j) (by omega)
      cases e
      refine ⟨b, off + lo * sz, by rw [Addr.add_lit], ?_⟩
      rw [show off + lo * sz + j * sz = off + (lo + j) * sz by rw [Nat.add_mul]; omega, List.getElem_drop, List.getElem_take]
      exact hr
end Go.Proofs.YtfiplhnplmadmaaDoor

/- Steps of a walk over known slots: slices cut, appended from, rows as lists, closures, structs compared. Conditions: none. -/
namespace Go.Proofs.YtfiplhnplmadmaaDoor
open Go.RowKit

section
variable {P : Program} {n : Nat} {m : List (Nat × Value)} {w x : World} {o : Oper} {N : Nat} {T : TypeId} {cs : Array Value} {α : Type} {enc : α → List Value} {sz : Nat} {v : Value} {l : List α}

/-- A slice of a slice. -/
def subV (v : Value) (lo hi sz : Nat) : Value :=
  match v with
  | .slice ao _ cap => sliced ao lo hi cap sz
  | x => x
theorem rn_sliceTo {t e : TypeId} {q r : Operand} {k : IntKind} {i : Int} {j : Nat} (ho : o.op = .slice t q none (some r) none) (hq : ev m q = some v) (hr : ev m r = some (.int k i)) (ht : P.underlying t = some (.slice e)) (hs : ∀ w : World, (sizeOf e).run P w = .ok sz w)
    (h : SliceOf enc sz w v l) (hij : i = (j : Nat)) (hj : j ≤ l.length) : (execOp (lk m) o).run P w = .ok (.value (subV v 0 j sz)) w := by
  subst hij
  obtain ⟨ao, cap, rfl, h3, h4, h5, h6⟩ := h
  have he : P.elem t = e := by simp [Program.elem, ht]
  have hrun : (Instr.slice t (.slice ao l.length cap) none (some (.int k j)) none).run P w = .ok (sliced ao 0 j cap sz) w := by
    rw [run_slice_h w t ao l.length cap (by rw [he]; exact ht) k j (by omega) (by omega), he, hs]; rfl
  unfold execOp
  simp only [ho, Option.map_some, Option.map_none, lk_ev hq, lk_ev hr, Instr.sliceAt, Sem.run_bind, run_underlying ht, Result.andThen_ok, hrun, Sem.run_pure]
  rfl
theorem row_nilL (w : World) (base : Nat) (T : TypeId) (sz : Nat) (enc : α → List Value) : w.ownsRow base T sz (.slice none 0 0) ([] : List α).length (([] : List α).flatMap enc) := World.ownsRow_nil _ _ _ _
theorem row_push {base : Nat} {u : Value} {y : α} {k : Nat} {xs : List Value} (h : w.ownsRow base T sz u (l.length + k) (l.flatMap enc ++ xs)) (hk : k = 1) (he : enc y = xs) : w.ownsRow base T sz u (l ++ [y]).length ((l ++ [y]).flatMap enc) := by
  subst hk he; simpa using h
theorem row_lows {base base' : Nat} {u : Value} {k : Nat} {xs : List Value} (h : w.ownsRow base T sz u k xs) (hb : base' ≤ base) : w.ownsRow base' T sz u k xs := by
  refine ⟨h.1, ?_⟩
  rcases h.2 with h2 | ⟨g, c, r, e, hg, h3⟩
  · exact .inl h2
  · exact .inr ⟨g, c, r, e, by omega, h3⟩
theorem row_eq {base : Nat} {u : Value} {l' : List α} (h : w.ownsRow base T sz u l.length (l.flatMap enc)) (e : l = l') : w.ownsRow base T sz u l'.length (l'.flatMap enc) := by subst e; exact h
theorem row_sl {base : Nat} (h : w.ownsRow base T sz v l.length (l.flatMap enc)) (hsz : ∀ y : α, (enc y).length = sz) : SliceOf enc sz w v l := SliceOf.own h (fun y _ => hsz y)
theorem row_fresh {base : Nat} {k : Nat} {xs : List Value} (h : w.ownsRow base T sz v k xs) (hN : N = w.heap.size) : v.ownBlock ≠ some N := fun e => by have := (h.lt N e).2; omega
end
end Go.Proofs.YtfiplhnplmadmaaDoor

/- Drawn regions in which several operations may come up: each way for itself. Conditions: none. -/
namespace Go.Proofs.YtfiplhnplmadmaaDoor
open Go.RowKit

section
variable {P : Program} {n : Nat} {m : List (Nat × Value)} {w : World} {o : Oper} {ops : Array Oper} {Q : Exit → Act → World → Prop} {R : Value → World → Prop} {md : Region.Mode} {S : World → Prop} {fuel i d : Nat} {listed : Array Bool} {a : Act}
def AllW (P : Program) (md : Region.Mode) (ops : Array Oper) (Q : Exit → Act → World → Prop) (S : World → Prop) (fuel : Nat) (listed : Array Bool) (a : Act) (w : World) : List Nat → Prop
  | [] => True
  | i :: r => wpOp P ops (NP Q) i (fun a' w' => S w' ∧ wpAnyH P md ops (NP Q) S fuel (listed.setIfInBounds i true) a' w') a w ∧ AllW P md ops Q S fuel listed a w r
theorem AllW.all : ∀ (rs : List Nat), AllW P md ops Q S fuel listed a w rs → ∀ i ∈ rs, wpOp P ops (NP Q) i (fun a' w' => S w' ∧ wpAnyH P md ops (NP Q) S fuel (listed.setIfInBounds i true) a' w') a w
  | [], _, _, h => by cases h
  | i :: r, h, j, hj => by
    rcases List.mem_cons.1 hj with rfl | hj
    · exact h.1
    · exact AllW.all r h.2 j hj
/-- Several may come up. -/
theorem dr_many (rs : List Nat) (hr : Region.ready md ops listed = rs) (hne : rs ≠ []) (h : AllW P md ops Q S fuel listed a w rs) : wpAnyH P md ops (NP Q) S (fuel + 1) listed a w := wpAnyH_all hr hne (AllW.all rs h)
theorem dr_op (hs : Slots n m a) (ho : ops[i]? = some o) (hw : wantB m ops o = some true) (hd : o.dst = some d) (hdn : Nat.blt d n = true) (h1 : Op1 P n m o w R) (hS : ∀ v w', R v w' → S w')
    (h : ∀ v w' a', R v w' → Slots n ((d, v) :: m) a' → wpAnyH P md ops (NP Q) S fuel (listed.setIfInBounds i true) a' w') : wpOp P ops (NP Q) i (fun a' w' => S w' ∧ wpAnyH P md ops (NP Q) S fuel (listed.setIfInBounds i true) a' w') a w := by
  unfold wpOp
  simp only [ho, hs.wants hw, if_true]
  exact .inl (h1 a hs _ _ fun v w' hv => ⟨hS v w' hv, h v w' _ hv (by rw [hd]; exact hs.put (by simpa using hdn))⟩)
/-- One that yields v and leaves the world as it is. -/
theorem dr_opVal {v : Value} (hs : Slots n m a) (ho : ops[i]? = some o) (hw : wantB m ops o = some true) (hd : o.dst = some d) (hdn : Nat.blt d n = true) (hok : okOps m o.op = true) (hsel : (match o.op with | .select .. => true | _ => false) = false) (hrun : (execOp (lk m) o).run P w = .ok (.value v) w) (hS : S w)
    (h : ∀ a', Slots n ((d, v) :: m) a' → wpAnyH P md ops (NP Q) S fuel (listed.setIfInBounds i true) a' w) : wpOp P ops (NP Q) i (fun a' w' => S w' ∧ wpAnyH P md ops (NP Q) S fuel (listed.setIfInBounds i true) a' w') a w :=
  dr_op hs ho hw hd hdn (op_run hok hsel hrun) (fun _ _ ⟨_, h2⟩ => by subst h2; exact hS) (fun _ _ a' ⟨h1, h2⟩ hs' => by subst h1 h2; exact h a' hs')
end
theorem row_one {w : World} {B sz k : Nat} {T : TypeId} {v : Value} {xs : List Value} (h : w.ownsRow B T sz v k xs) : v.oneCell' = true := by
  rcases h.2 with ⟨rfl, _⟩ | ⟨g, cap, cur, rfl, _⟩ <;> rfl
theorem all_nil : ([] : List Value).toArray.all (·.oneCell') = true := by simp
theorem all_cons {u : Value} {l : List Value} (h : u.oneCell' = true) (hl : l.toArray.all (·.oneCell') = true) : (u :: l).toArray.all (·.oneCell') = true := by
  simp only [List.all_toArray, List.all_cons, Bool.and_eq_true] at hl ⊢
  exact ⟨h, hl⟩
/-- A block of known cells, as a row of its own. -/
theorem row_of_cells {α : Type} {enc : α → List Value} {sz base N : Nat} {w : World} {T : TypeId} {cs : Array Value} (l : List α) (h : Blk w N T cs) (hb : base ≤ N) (hl : cs.toList = l.flatMap enc) (hs : cs.size = l.length * sz) (hm : l.length ≤ maxLen) :
    w.ownsRow base T sz (.slice (some ⟨N, 0, none⟩) l.length l.length) l.length (l.flatMap enc) := by
  have hcs : cs.toList.length = l.length * sz := by simpa using hs
  refine ⟨by rw [← hl, hcs], .inr ⟨N, l.length, cs, rfl, hb, h, Nat.le_refl _, hm, hs, ?_⟩⟩
  rw [← hl, List.take_of_length_le (by omega)]
/-- A pointer. -/
abbrev pt (b o : Nat) : Value := .pointer (some ⟨b, o, none⟩)
/-! ### Short forms: what follows by computing alone stands behind. -/
section
variable {P : Program} {n : Nat} {m : List (Nat × Value)} {w : World} {o : Oper} {ops : Array Oper} {rest : List Oper} {Q : Exit → Act → World → Prop} {R : Value → World → Prop} {md : Region.Mode} {S : World → Prop} {fuel d : Nat} {listed : Array Bool} {a : Act} {v : Value}
theorem pk (hs : Slots n m a) (hd : o.dst = some d) (hrun : (execOp (lk m) o).run P w = .ok (.value v) w) (h : ∀ a', Slots n ((d, v) :: m) a' → wpList P ops Q rest a' w)
    (hg : wantB m ops o = some true := by rfl) (hdn : Nat.blt d n = true := by rfl) (hok : okOps m o.op = true := by kernel_rfl) (hsel : (match o.op with | .select .. => true | _ => false) = false := by kernel_rfl) : wpList P ops Q (o :: rest) a w := pl_val hs hg hd hdn hok hsel hrun h
theorem pk0 (hs : Slots n m a) (hd : o.dst = some d) (h : ∀ a', Slots n ((d, v) :: m) a' → wpList P ops Q rest a' w)
    (hg : wantB m ops o = some true := by rfl) (hdn : Nat.blt d n = true := by rfl) (hok : okOps m o.op = true := by kernel_rfl) (hsel : (match o.op with | .select .. => true | _ => false) = false := by kernel_rfl) (hrun : (execOp (lk m) o).run P w = .ok (.value v) w := by kernel_rfl) : wpList P ops Q (o :: rest) a w := pl_val hs hg hd hdn hok hsel hrun h
theorem pw (hs : Slots n m a) (hd : o.dst = some d) (h1 : Op1 P n m o w R) (h : ∀ v w' a', R v w' → Slots n ((d, v) :: m) a' → wpList P ops Q rest a' w') (hg : wantB m ops o = some true := by rfl) (hdn : Nat.blt d n = true := by rfl) : wpList P ops Q (o :: rest) a w := pl_want hs hg hd hdn h1 h
theorem pwD (hs : Slots n m a) (hd : o.dst = none) (h1 : Op1 P n m o w R) (h : ∀ v w' a', R v w' → Slots n m a' → wpList P ops Q rest a' w') (hg : wantB m ops o = some true := by rfl) : wpList P ops Q (o :: rest) a w := pl_doW hs hg hd h1 h
theorem psk (hs : Slots n m a) (hd : o.dst = some d) (h : ∀ a', Slots n ((d, undef) :: m) a' → wpList P ops Q rest a' w) (hg : wantB m ops o = some false := by rfl) (hdn : Nat.blt d n = true := by rfl) : wpList P ops Q (o :: rest) a w := pl_skip hs hg hd hdn h
theorem dk (i : Nat) (hs : Slots n m a) (ho : ops[i]? = some o) (hd : o.dst = some d) (hS : S w) (hrun : ∀ w, S w → (execOp (lk m) o).run P w = .ok (.value v) w) (h : ∀ a', Slots n ((d, v) :: m) a' → wpAnyH P md ops (NP Q) S fuel (listed.setIfInBounds i true) a' w)
    (hsel : Region.noSelect ops = true := by kernel_rfl) (hf : Region.free md ops listed i = true := by kernel_rfl) (hr : (Region.ready md ops listed).contains i = true := by kernel_rfl) (hw : wantB m ops o = some true := by rfl) (hdn : Nat.blt d n = true := by rfl) (hok : okOps m o.op = true := by kernel_rfl) : wpAnyH P md ops (NP Q) S (fuel + 1) listed a w := dr_take hs ho hsel hf hr hw hd hdn hS hok hrun h
theorem dk0 (i : Nat) (hs : Slots n m a) (ho : ops[i]? = some o) (hd : o.dst = some d) (hS : S w) (h : ∀ a', Slots n ((d, v) :: m) a' → wpAnyH P md ops (NP Q) S fuel (listed.setIfInBounds i true) a' w)
    (hsel : Region.noSelect ops = true := by kernel_rfl) (hf : Region.free md ops listed i = true := by kernel_rfl) (hr : (Region.ready md ops listed).contains i = true := by kernel_rfl) (hw : wantB m ops o = some true := by rfl) (hdn : Nat.blt d n = true := by rfl) (hok : okOps m o.op = true := by kernel_rfl) (hrun : ∀ w, S w → (execOp (lk m) o).run P w = .ok (.value v) w := by intro _ _; kernel_rfl) : wpAnyH P md ops (NP Q) S (fuel + 1) listed a w := dr_take hs ho hsel hf hr hw hd hdn hS hok hrun h
theorem d1 (i : Nat) (hs : Slots n m a) (ho : ops[i]? = some o) (hd : o.dst = some d) (h1 : Op1 P n m o w R) (hS : ∀ v w', R v w' → S w') (h : ∀ v w' a', R v w' → Slots n ((d, v) :: m) a' → wpAnyH P md ops (NP Q) S fuel (listed.setIfInBounds i true) a' w')
    (hr : Region.ready md ops listed = [i] := by kernel_rfl) (hw : wantB m ops o = some true := by rfl) (hdn : Nat.blt d n = true := by rfl) : wpAnyH P md ops (NP Q) S (fuel + 1) listed a w := dr_one hs ho hr hw hd hdn h1 hS h
theorem d1D (i : Nat) (hs : Slots n m a) (ho : ops[i]? = some o) (hd : o.dst = none) (h1 : Op1 P n m o w R) (hS : ∀ v w', R v w' → S w') (h : ∀ v w' a', R v w' → Slots n m a' → wpAnyH P md ops (NP Q) S fuel (listed.setIfInBounds i true) a' w')
    (hr : Region.ready md ops listed = [i] := by kernel_rfl) (hw : wantB m ops o = some true := by rfl) : wpAnyH P md ops (NP Q) S (fuel + 1) listed a w := dr_oneDo hs ho hr hw hd h1 hS h
end
end Go.Proofs.YtfiplhnplmadmaaDoor

/- Steps of a walk over known slots: rows and blocks of other types lie apart; three results, the first one a struct in a cell. Conditions: none. -/
namespace Go.Proofs.YtfiplhnplmadmaaDoor
open Go.RowKit
section
variable {P : Program} {n : Nat} {m : List (Nat × Value)} {w x : World} {N : Nat} {T : TypeId} {cs : Array Value}
theorem own_neT {B sz k : Nat} {e : TypeId} {v : Value} {xs : List Value} (h : w.ownsRow B e sz v k xs) (hb : Blk w N T cs) (hT : e ≠ T) : v.ownBlock ≠ some N := fun e1 => by
  rcases h.2 with ⟨rfl, _⟩ | ⟨g, c, cur, rfl, hg, hh, _⟩
  · simp [Value.ownBlock] at e1
  · simp only [Value.ownBlock, Option.some.injEq] at e1
    subst e1
    have := hh.symm.trans hb
    simp only [Option.some.injEq, Obj.cells.injEq] at this
    exact hT this.2.1
theorem sl_form {α : Type} {enc : α → List Value} {sz : Nat} {v : Value} {l : List α} (h : SliceOf enc sz w v l) : ∃ a n c, v = .slice a n c := by
  obtain ⟨ao, cap, rfl, _⟩ := h; exact ⟨_, _, _, rfl⟩
end
end Go.Proofs.YtfiplhnplmadmaaDoor

/- Maps that the call makes: a list of keys and values; lookups, stores, deletes, lengths. Conditions: none. -/
namespace Go.Proofs.YtfiplhnplmadmaaDoor
open Go.RowKit

theorem mapErase {α β : Type} (f : α → β) : ∀ (l : List α) (i : Nat), (l.eraseIdx i).map f = (l.map f).eraseIdx i
  | [], i => by simp
  | a :: r, 0 => by simp
  | a :: r, i + 1 => by simp [mapErase f r i]
section
variable {K : Type} [DecidableEq K]
/-- The place and the value of a key. -/
def lookK (a : K) : List (K × Value) → Nat → Option (Nat × Value)
  | [], _ => none
  | p :: r, i => if a = p.1 then some (i, p.2) else lookK a r (i + 1)
def getK (l : List (K × Value)) (a : K) : Option Value := (lookK a l 0).map (·.2)
def putK (l : List (K × Value)) (a : K) (v : Value) : List (K × Value) :=
  match lookK a l 0 with
  | some (i, _) => l.modify i fun p => (p.1, v)
  | none => l ++ [(a, v)]
def delK (l : List (K × Value)) (a : K) : List (K × Value) :=
  match lookK a l 0 with
  | some (i, _) => l.eraseIdx i
  | none => l
theorem lookK_shift (a : K) : ∀ (l : List (K × Value)) (i j : Nat), lookK a l (i + j) = (lookK a l j).map fun p => (i + p.1, p.2)
  | [], _, _ => rfl
  | p :: r, i, j => by
    unfold lookK
    split
    · rfl
    · rw [Nat.add_assoc]; exact lookK_shift a r i (j + 1)
theorem lookK_some {a : K} : ∀ {l : List (K × Value)} {i : Nat} {v : Value}, lookK a l 0 = some (i, v) → l[i]? = some (a, v)
  | [], i, v, h => by simp [lookK] at h
  | p :: r, i, v, h => by
    unfold lookK at h
    split at h
    · rename_i e
      simp only [Option.some.injEq, Prod.mk.injEq] at h
      obtain ⟨rfl, rfl⟩ := h
      subst e; rfl
    · rw [show (0 : Nat) + 1 = 1 + 0 from rfl, lookK_shift] at h
      cases hr : lookK a r 0 with
      | none => rw [hr] at h; simp at h
      | some q =>
        obtain ⟨k, u⟩ := q
        rw [hr] at h
        simp only [Option.map_some, Option.some.injEq, Prod.mk.injEq] at h
        obtain ⟨rfl, rfl⟩ := h
        rw [Nat.add_comm, List.getElem?_cons_succ]
        exact lookK_some hr
theorem lookK_none {a : K} : ∀ {l : List (K × Value)}, lookK a l 0 = none → ∀ p ∈ l, p.1 ≠ a
  | [], _, p, hp => by simp at hp
  | q :: r, h, p, hp => by
    unfold lookK at h
    split at h
    · simp at h
    · rename_i e
      rw [show (0 : Nat) + 1 = 1 + 0 from rfl, lookK_shift] at h
      have hr : lookK a r 0 = none := by cases hr : lookK a r 0 <;> simp_all
      rcases List.mem_cons.1 hp with rfl | hp
      · exact fun e' => e e'.symm
      · exact lookK_none hr p hp
theorem getK_cons (p : K × Value) (l : List (K × Value)) (b : K) : getK (p :: l) b = if b = p.1 then some p.2 else getK l b := by
  simp only [getK, lookK]
  split
  · rfl
  · rw [show (0 : Nat) + 1 = 1 + 0 from rfl, lookK_shift]; cases lookK b l 0 <;> rfl
@[simp] theorem getK_nil (b : K) : getK ([] : List (K × Value)) b = none := rfl
theorem getK_append (l r : List (K × Value)) (b : K) : getK (l ++ r) b = (getK l b).or (getK r b) := by
  induction l with
  | nil => simp
  | cons p l ih => rw [List.cons_append, getK_cons, getK_cons, ih]; split <;> simp
theorem getK_none {l : List (K × Value)} {b : K} (h : ∀ p ∈ l, p.1 ≠ b) : getK l b = none := by
  induction l with
  | nil => rfl
  | cons p l ih => rw [getK_cons, if_neg (fun e => h p (by simp) e.symm), ih (fun q hq => h q (by simp [hq]))]
theorem getK_modify : ∀ (l : List (K × Value)) (i : Nat) (a : K) (u v : Value) (b : K), l[i]? = some (a, u) → (∀ j, j < i → ∀ p, l[j]? = some p → p.1 ≠ a) → getK (l.modify i fun p => (p.1, v)) b = if b = a then some v else getK l b
  | [], i, a, u, v, b, h, _ => by simp at h
  | p :: r, 0, a, u, v, b, h, _ => by
    simp at h; subst h
    rw [List.modify_zero_cons, getK_cons, getK_cons]
    split <;> simp_all
  | p :: r, i + 1, a, u, v, b, h, hn => by
    rw [List.modify_succ_cons, getK_cons, getK_cons, getK_modify r i a u v b (by simpa using h) (fun j hj q hq => hn (j + 1) (by omega) q (by simpa using hq))]
    have hp : p.1 ≠ a := hn 0 (by omega) p rfl
    by_cases e : b = p.1
    · subst e; simp [hp]
    · simp [e]
theorem lookK_first {a : K} : ∀ {l : List (K × Value)} {i : Nat} {v : Value}, lookK a l 0 = some (i, v) → ∀ j, j < i → ∀ p, l[j]? = some p → p.1 ≠ a
  | [], i, v, h => by simp [lookK] at h
  | q :: r, i, v, h => by
    intro j hj p hp
    unfold lookK at h
    split at h
    · simp at h; omega
    · rename_i e
      rw [show (0 : Nat) + 1 = 1 + 0 from rfl, lookK_shift] at h
      cases hr : lookK a r 0 with
      | none => rw [hr] at h; simp at h
      | some x =>
        obtain ⟨k, u⟩ := x
        rw [hr] at h
        simp only [Option.map_some, Option.some.injEq, Prod.mk.injEq] at h
        cases j with
        | zero => simp at hp; subst hp; exact fun e' => e e'.symm
        | succ j => exact lookK_first hr j (by omega) p (by simpa using hp)
theorem getK_put (l : List (K × Value)) (a : K) (v : Value) (b : K) : getK (putK l a v) b = if b = a then some v else getK l b := by
  unfold putK
  cases h : lookK a l 0 with
  | none =>
    simp only []
    rw [getK_append]
    by_cases e : b = a
    · subst e; rw [getK_none (lookK_none h)]; simp [getK_cons]
    · simp [getK_cons, e]
  | some x =>
    obtain ⟨i, u⟩ := x
    exact getK_modify l i a u v b (lookK_some h) (lookK_first h)
theorem putK_keys (l : List (K × Value)) (a : K) (v : Value) (h : (l.map (·.1)).Nodup) : ((putK l a v).map (·.1)).Nodup := by
  unfold putK
  cases h1 : lookK a l 0 with
  | none =>
    simp only [List.map_append, List.map_cons, List.map_nil]
    rw [List.nodup_append]
    refine ⟨h, by simp, ?_⟩
    intro x hx y hy
    obtain ⟨p, hp, rfl⟩ := List.mem_map.1 hx
    simp at hy; subst hy
    exact lookK_none h1 p hp
  | some x =>
    obtain ⟨i, u⟩ := x
    have : (l.modify i fun p => (p.1, v)).map (·.1) = l.map (·.1) := by
      apply List.ext_getElem?
      intro j
      simp only [List.getElem?_map, List.getElem?_modify]
      cases l[j]? <;> simp
      split <;> rfl
    simp only []
    rw [this]; exact h
theorem getK_del (l : List (K × Value)) (a b : K) (h : (l.map (·.1)).Nodup) : getK (delK l a) b = if b = a then none else getK l b := by
  have key : ∀ (l : List (K × Value)) (i : Nat) (u : Value), (l.map (·.1)).Nodup → l[i]? = some (a, u) → getK (l.eraseIdx i) b = if b = a then none else getK l b := by
    intro l
    induction l with
    | nil => intro i u _ h; simp at h
    | cons p r ih =>
      intro i u hn h
      simp only [List.map_cons, List.nodup_cons, List.mem_map, not_exists, not_and] at hn
      cases i with
      | zero =>
        simp at h; subst h
        rw [List.eraseIdx_zero, List.tail_cons, getK_cons]
        by_cases e : b = a
        · subst e; simp; exact getK_none (fun q hq => hn.1 q hq)
        · simp [e]
      | succ i =>
        simp only [List.getElem?_cons_succ] at h
        rw [List.eraseIdx_cons_succ, getK_cons, getK_cons, ih i u hn.2 h]
        have hp : p.1 ≠ a := fun e => hn.1 (a, u) (List.mem_of_getElem? h) e.symm
        by_cases e : b = p.1
        · subst e; simp [hp]
        · simp [e]
  unfold delK
  cases h1 : lookK a l 0 with
  | none =>
    simp only []
    by_cases e : b = a
    · subst e; simp [getK, h1]
    · simp [e]
  | some x => exact key l x.1 x.2 h (lookK_some h1)
theorem delK_keys (l : List (K × Value)) (a : K) (h : (l.map (·.1)).Nodup) : ((delK l a).map (·.1)).Nodup := by
  unfold delK
  cases h1 : lookK a l 0 with
  | none => exact h
  | some x => simp only []; rw [mapErase]; exact h.sublist (List.eraseIdx_sublist _ _)

end

section
variable {K : Type}
variable {P : Program} {n : Nat} {m : List (Nat × Value)} {w x : World} {o : Oper} {B : Nat} {l : List (K × Value)} {kv : K → Value} {kt e t : TypeId} {q r : Operand} {a : K}
/-- Block B is a map that holds just these entries. -/
def MapB (kv : K → Value) (w : World) (B : Nat) (l : List (K × Value)) : Prop :=
  ∃ es clock, w.heap[B]? = some (.map es clock) ∧ es.toList.map (fun e => (e.key, e.val)) = l.map (fun p => (kv p.1, p.2)) ∧ (l.map (·.1)).Nodup ∧ (es.toList.map (·.born)).Nodup ∧ ∀ e ∈ es.toList, e.born < clock
theorem MapB.lt (h : MapB kv w B l) : B < w.heap.size := by obtain ⟨_, _, h, _⟩ := h; exact (Array.getElem?_eq_some_iff.1 h).1
theorem MapB.keys (h : MapB kv w B l) : (l.map (·.1)).Nodup := by obtain ⟨_, _, _, _, h, _⟩ := h; exact h
theorem MapB.kept {row : Option Nat} (h : MapB kv w B l) (hg : w.grownBy x row) (hne : row ≠ some B) : MapB kv x B l := by
  obtain ⟨es, c, h1, h2⟩ := h
  exact ⟨es, c, by rw [hg.block B (Array.getElem?_eq_some_iff.1 h1).1 (fun e => hne e.symm)]; exact h1, h2⟩
theorem MapB.below (h : MapB kv w B l) (hb : Below w.heap.size w x) : MapB kv x B l := h.kept (below_grown hb) (by simp)
theorem op_makeMap (kv : K → Value) (hrun : (execOp (lk m) o).run P w = .ok (.value (.map (some w.heap.size))) (w.alloc (.map #[] 0))) (hok : okOps m o.op = true) (hsel : (match o.op with | .select .. => true | _ => false) = false) :
    Op1 P n m o w (fun u x => ∃ N, u = .map (some N) ∧ N = w.heap.size ∧ x.heap.size = N + 1 ∧ MapB kv x N [] ∧ w.grownBy x none) :=
  (op_run hok hsel hrun).mono fun u x ⟨h1, h2⟩ => by
    subst h2
    exact ⟨w.heap.size, h1, rfl, by simp, ⟨#[], 0, heap_alloc_new w _, by simp, by simp, by simp, by simp⟩, World.grownBy_alloc w _ none⟩
theorem rn_lenMap {ts : Array TypeId} (ho : o.op = .call { callee := .builtin .len, args := #[q], argTypes := #[t] }) (hq : ev m q = some (.map (some B))) (ht : P.underlying t = some (.map kt e)) (h : MapB kv w B l) : (execOp (lk m) o).run P w = .ok (.value (.int .i64 (l.length : Nat))) w := by
  obtain ⟨es, cl, h1, h2, _⟩ := h
  have hl : es.size = l.length := by have := congrArg List.length h2; simpa using this
  have hg : (getObj B).run P w = .ok (.map es cl) w := by simp [getObj, Sem.run, h1]
  unfold execOp
  simp [ho, resolve, invoke, builtin, Sem.run_bind, lk_ev hq, Builtin.len_, goInt, run_underlying ht, hg, hl]
theorem setObj_grown (w : World) (B : Nat) (ob : Obj) : w.grownBy { w with heap := w.heap.setIfInBounds B ob } (some B) :=
  ⟨rfl, rfl, rfl, by simp, fun k _ hk => by simp [Array.getElem?_setIfInBounds_ne (show B ≠ k from fun e => hk (by rw [e]))]⟩

end

section
variable {K : Type} [DecidableEq K]
/-- How keys of a kind lie in memory, are found, stay. -/
structure KL (P : Program) (kt : TypeId) (kv : K → Value) : Prop where
  chk : ∀ (w : World) (em : Bool) (a : K), (Instr.checkKey em 10000 kt (kv a)).run P w = .ok () w
  fnd : ∀ (w : World) (a : K) (es : List MapEntry) (l : List (K × Value)), es.map (fun e => (e.key, e.val)) = l.map (fun p => (kv p.1, p.2)) → (Instr.findKey kt (kv a) es).run P w = .ok (lookK a l 0) w
  bits : ∀ a : K, Instr.sameBits 10000 (kv a) (kv a) = true

variable {P : Program} {n : Nat} {m : List (Nat × Value)} {w x : World} {o : Oper} {B : Nat} {l : List (K × Value)} {kv : K → Value} {kt e t : TypeId} {q r : Operand} {a : K}
theorem run_look (KK : KL P kt kv) (ht : P.underlying t = some (.map kt e)) {z : Value} (hz : ∀ w : World, (zeroValue e).run P w = .ok z w) (h : MapB kv w B l) (c : Bool) :
    (Instr.lookup t (.map (some B)) (kv a) c).run P w = .ok (if c then .tuple #[(getK l a).getD z, .bool (getK l a).isSome] else (getK l a).getD z) w := by
  obtain ⟨es, cl, h1, h2, _⟩ := h
  have hg : (getObj B).run P w = .ok (.map es cl) w := by simp [getObj, Sem.run, h1]
  have hf := KK.fnd w a es.toList l h2
  simp only [Instr.lookup, Sem.run_bind, run_underlying ht, Result.andThen_ok, hg, Sem.run_pure, KK.chk, hf]
  unfold getK
  cases lookK a l 0 with
  | none => simp [hz]
  | some p => simp
theorem rn_look (KK : KL P kt kv) (ho : o.op = .lookup t q r false) (hq : ev m q = some (.map (some B))) (hr : ev m r = some (kv a)) (ht : P.underlying t = some (.map kt e)) {z : Value} (hz : ∀ w : World, (zeroValue e).run P w = .ok z w) (h : MapB kv w B l) :
    (execOp (lk m) o).run P w = .ok (.value ((getK l a).getD z)) w := by
  have := run_look (a := a) KK ht hz h false
  unfold execOp
  simp only [ho, lk_ev hq, lk_ev hr, Sem.run_bind, this, Result.andThen_ok, Sem.run_pure]
  rfl
theorem rn_lookOk (KK : KL P kt kv) (ho : o.op = .lookup t q r true) (hq : ev m q = some (.map (some B))) (hr : ev m r = some (kv a)) (ht : P.underlying t = some (.map kt e)) {z : Value} (hz : ∀ w : World, (zeroValue e).run P w = .ok z w) (h : MapB kv w B l) :
    (execOp (lk m) o).run P w = .ok (.value (.tuple #[(getK l a).getD z, .bool (getK l a).isSome])) w := by
  have := run_look (a := a) KK ht hz h true
  unfold execOp
  simp only [ho, lk_ev hq, lk_ev hr, Sem.run_bind, this, Result.andThen_ok, Sem.run_pure]
  rfl
theorem run_update (KK : KL P kt kv) (ht : P.underlying t = some (.map kt e)) (v : Value) (h : MapB kv w B l) :
    ∃ x, (Instr.mapUpdate t (.map (some B)) (kv a) v).run P w = .ok () x ∧ MapB kv x B (putK l a v) ∧ x.heap.size = w.heap.size ∧ w.grownBy x (some B) := by
  have hkn := putK_keys l a v h.keys
  obtain ⟨es, cl, h1, h2, h3, h4, h5⟩ := h
  have hlt := (Array.getElem?_eq_some_iff.1 h1).1
  have hg : (getObj B).run P w = .ok (.map es cl) w := by simp [getObj, Sem.run, h1]
  have hso : ∀ ob : Obj, (setObj B ob).run P w = .ok () { w with heap := w.heap.setIfInBounds B ob } := fun ob => by simp [setObj, Sem.run, h1]
  have hf := KK.fnd w a es.toList l h2
  cases hL : lookK a l 0 with
  | none =>
    refine ⟨{ w with heap := w.heap.setIfInBounds B (.map (es.push { key := kv a, val := v, born := cl }) (cl + 1)) }, ?_, ⟨es.push { key := kv a, val := v, born := cl }, cl + 1, by simp [hlt], ?_, hkn, ?_, ?_⟩, by simp, setObj_grown w B _⟩
    · simp only [Instr.mapUpdate, Sem.run_bind, run_underlying ht, Result.andThen_ok, hg, KK.chk, hf, hL, hso]
    · simp [putK, hL, h2]
    · simp only [Array.toList_push, List.map_append, List.map_cons, List.map_nil]
      rw [List.nodup_append]
      refine ⟨h4, by simp, fun y hy z hz => ?_⟩
      obtain ⟨e0, he, rfl⟩ := List.mem_map.1 hy
      simp at hz; subst hz
      have := h5 e0 he; omega
    · intro e0 he
      simp only [Array.toList_push, List.mem_append, List.mem_singleton] at he
      rcases he with he | rfl
      · have := h5 e0 he; omega
      · exact Nat.lt_succ_self _
  | some p =>
    obtain ⟨i, u⟩ := p
    have hli := lookK_some hL
    have hei : (es.toList.map (fun e => (e.key, e.val)))[i]? = some (kv a, u) := by rw [h2]; simp [hli]
    rw [List.getElem?_map] at hei
    cases he : es.toList[i]? with
    | none => rw [he] at hei; simp at hei
    | some e0 =>
      rw [he] at hei
      simp only [Option.map_some, Option.some.injEq, Prod.mk.injEq] at hei
      have he' : es[i]? = some e0 := by rw [← Array.getElem?_toList]; exact he
      have hst : (Instr.keyThatStays e0.key (kv a)).run P w = .ok (kv a) w := by
        rw [hei.1]; unfold Instr.keyThatStays; rw [KK.bits a]; rfl
      refine ⟨{ w with heap := w.heap.setIfInBounds B (.map (es.modify i fun e => { e with key := kv a, val := v }) cl) }, ?_, ⟨es.modify i fun e => { e with key := kv a, val := v }, cl, by simp [hlt], ?_, hkn, ?_, ?_⟩, by simp, setObj_grown w B _⟩
      · simp only [Instr.mapUpdate, Sem.run_bind, run_underlying ht, Result.andThen_ok, hg, KK.chk, hf, hL, he', Option.map_some, Option.getD_some, hst, hso]
      · simp only [putK, hL, Array.toList_modify]
        apply List.ext_getElem?
        intro j
        have hj : (es.toList.map (fun e => (e.key, e.val)))[j]? = (l.map (fun p => (kv p.1, p.2)))[j]? := by rw [h2]
        simp only [List.getElem?_map, List.getElem?_modify] at hj ⊢
        by_cases e1 : i = j
        · subst e1; simp [he, hli]
        · simp only [e1, if_false]
          cases hx : es.toList[j]? <;> cases hy : l[j]? <;> simp_all
      · have : (es.toList.modify i fun e0 => { e0 with key := kv a, val := v }).map (·.born) = es.toList.map (·.born) := by
          apply List.ext_getElem?
          intro j
          simp only [List.getElem?_map, List.getElem?_modify]
          cases es.toList[j]? <;> simp
          split <;> rfl
        rw [Array.toList_modify, this]; exact h4
      · intro e1 h1'
        rw [Array.toList_modify] at h1'
        obtain ⟨j, hj⟩ := List.getElem?_of_mem h1'
        rw [List.getElem?_modify] at hj
        cases hx : es.toList[j]? with
        | none => rw [hx] at hj; simp at hj
        | some e2 =>
          rw [hx] at hj
          have := h5 e2 (List.mem_of_getElem? hx)
          simp at hj; subst hj
          split <;> simpa using this
theorem op_mapUpdate (KK : KL P kt kv) {s : Operand} {v : Value} (ho : o.op = .mapUpdate t q r s) (hq : ev m q = some (.map (some B))) (hr : ev m r = some (kv a)) (hs : ev m s = some v) (ht : P.underlying t = some (.map kt e)) (h : MapB kv w B l) :
    Op1 P n m o w (fun _ x => MapB kv x B (putK l a v) ∧ x.heap.size = w.heap.size ∧ w.grownBy x (some B)) := by
  intro ac ha N Q hN
  obtain ⟨x, hx, h1, h2, h3⟩ := run_update (a := a) KK ht v h
  unfold Oper.wp execOp
  simp only [ho, ha.ev hq, ha.ev hr, ha.ev hs, Sem.run_bind, hx, Result.andThen_ok, Sem.run_pure]
  exact hN _ _ ⟨h1, h2, h3⟩
theorem run_delete (KK : KL P kt kv) (ht : P.underlying t = some (.map kt e)) {t2 ty : TypeId} (h : MapB kv w B l) :
    ∃ x, (Builtin.delete_ #[t, t2] ty #[.map (some B), kv a]).run P w = .ok (.tuple #[]) x ∧ MapB kv x B (delK l a) ∧ x.heap.size = w.heap.size ∧ w.grownBy x (some B) := by
  have hkn := delK_keys l a h.keys
  obtain ⟨es, cl, h1, h2, h3, h4, h5⟩ := h
  have hlt := (Array.getElem?_eq_some_iff.1 h1).1
  have hg : (getObj B).run P w = .ok (.map es cl) w := by simp [getObj, Sem.run, h1]
  have hso : ∀ ob : Obj, (setObj B ob).run P w = .ok () { w with heap := w.heap.setIfInBounds B ob } := fun ob => by simp [setObj, Sem.run, h1]
  have hf := KK.fnd w a es.toList l h2
  cases hL : lookK a l 0 with
  | none =>
    refine ⟨{ w with heap := w.heap.setIfInBounds B (.map es cl) }, ?_, ⟨es, cl, by simp [hlt], by simpa [delK, hL] using h2, hkn, h4, h5⟩, by simp, setObj_grown w B _⟩
    simp only [Builtin.delete_, List.getElem?_toArray, List.getElem?_cons_zero, List.getElem?_cons_succ, Sem.run_bind, run_underlying ht, Result.andThen_ok, hg, KK.chk, hf, hL, hso, Sem.run_pure]
  | some p =>
    obtain ⟨i, u⟩ := p
    have he : (es.eraseIdxIfInBounds i).toList = es.toList.eraseIdx i := by simp
    refine ⟨{ w with heap := w.heap.setIfInBounds B (.map (es.eraseIdxIfInBounds i) cl) }, ?_, ⟨es.eraseIdxIfInBounds i, cl, by simp [hlt], ?_, hkn, ?_, ?_⟩, by simp, setObj_grown w B _⟩
    · simp only [Builtin.delete_, List.getElem?_toArray, List.getElem?_cons_zero, List.getElem?_cons_succ, Sem.run_bind, run_underlying ht, Result.andThen_ok, hg, KK.chk, hf, hL, hso, Sem.run_pure]
    · simp only [delK, hL]; rw [he, mapErase, mapErase, h2]
    · rw [he, mapErase]; exact h4.sublist (List.eraseIdx_sublist _ _)
    · intro e0 h0; rw [he] at h0; exact h5 e0 ((List.eraseIdx_sublist _ _).mem h0)
end
end Go.Proofs.YtfiplhnplmadmaaDoor

/- Keys of maps: ints, texts, and structs or arrays that are compared part by part. Conditions: none. -/
namespace Go.Proofs.YtfiplhnplmadmaaDoor
open Go.RowKit

theorem findNow_keys {K : Type} [DecidableEq K] {kv : K → Value} {d : TypeDesc} (h : ∀ a b, Instr.sameNow d (kv a) (kv b) = some (decide (a = b))) (a : K) : ∀ (es : List MapEntry) (l : List (K × Value)) (i : Nat), es.map (fun e => (e.key, e.val)) = l.map (fun p => (kv p.1, p.2)) → Instr.findNow d (kv a) es i = some (lookK a l i)
  | [], [], _, _ => rfl
  | [], p :: r, _, h => by simp at h
  | e :: es, [], _, h => by simp at h
  | e :: es, p :: r, i, he => by
    simp only [List.map_cons, List.cons.injEq, Prod.mk.injEq] at he
    obtain ⟨⟨h1, h2⟩, h3⟩ := he
    unfold Instr.findNow lookK
    rw [h1, h a p.1, h2]
    by_cases e1 : a = p.1
    · simp [e1]
    · simp only [e1, decide_false, if_false]
      exact findNow_keys h a es r (i + 1) h3
theorem plainKL {P : Program} {kt : TypeId} {K : Type} [DecidableEq K] {kv : K → Value} {d : TypeDesc} (ht : P.underlying kt = some d) (h : ∀ a b, Instr.sameNow d (kv a) (kv b) = some (decide (a = b))) (hc : ∀ (w : World) em a, (Instr.checkKey em 10000 kt (kv a)).run P w = .ok () w) (hb : ∀ a, Instr.sameBits 10000 (kv a) (kv a) = true) : KL P kt kv where
  chk := hc
  fnd w a es l hl := by
    simp only [Instr.findKey, Sem.run_bind, run_underlying ht, Result.andThen_ok, findNow_keys h a es l 0 hl, Sem.run_pure]
  bits := hb
def intK (n : Int) : Value := .int .i64 n
theorem intKL {P : Program} {kt : TypeId} (ht : P.underlying kt = some (.int .i64)) : KL P kt intK :=
  plainKL ht (fun a b => by simp [Instr.sameNow, intK]; rfl) (fun w em a => (show ∀ d, (Instr.checkKey em (d + 1) kt (intK a)).run P w = .ok () w from fun d => by
    simp only [Instr.checkKey, Sem.run_bind, run_underlying ht, Result.andThen_ok, intK, Sem.run_pure]) 9999) (fun a => (show ∀ d, Instr.sameBits (d + 1) (intK a) (intK a) = true from fun d => by simp [Instr.sameBits, intK]) 9999)
end Go.Proofs.YtfiplhnplmadmaaDoor

/- Maps that the call makes, told by a function that says what each key has (a default for those that are not there). Conditions: none. -/
namespace Go.Proofs.YtfiplhnplmadmaaDoor
open Go.RowKit

section
variable {K V : Type} {P : Program} {n : Nat} {m : List (Nat × Value)} {w x : World} {o : Oper} {B : Nat} {kv : K → Value} {kt e t : TypeId} {q r : Operand} {a : K} {enc : V → Value} {z : V} {g : K → V}

/-- Block B is a map; a key a has g a (z, if it is not there). -/
def MapG [DecidableEq K] (kv : K → Value) (enc : V → Value) (z : V) (w : World) (B : Nat) (g : K → V) : Prop := ∃ l, MapB kv w B l ∧ ∀ a, (getK l a).getD (enc z) = enc (g a)
variable [DecidableEq K]
theorem MapG.lt (h : MapG kv enc z w B g) : B < w.heap.size := by obtain ⟨l, h, _⟩ := h; exact h.lt
theorem MapG.kept {row : Option Nat} (h : MapG kv enc z w B g) (hg : w.grownBy x row) (hne : row ≠ some B) : MapG kv enc z x B g := by
  obtain ⟨l, h1, h2⟩ := h; exact ⟨l, h1.kept hg hne, h2⟩
theorem MapG.below (h : MapG kv enc z w B g) (hb : Below w.heap.size w x) : MapG kv enc z x B g := h.kept (below_grown hb) (by simp)
theorem MapG.row {B' : Nat} {T : TypeId} {sz k : Nat} {v : Value} {xs : List Value} (h : MapG kv enc z w B g) (hr : w.ownsRow B' T sz v k xs) : v.ownBlock ≠ some B := by
  intro e1
  obtain ⟨l, ⟨es, c, h1, _⟩, _⟩ := h
  rcases hr.2 with ⟨rfl, _⟩ | ⟨g1, _, _, rfl, _, hg1, _⟩
  · simp [Value.ownBlock] at e1
  · simp [Value.ownBlock] at e1
    subst e1; rw [h1] at hg1; cases hg1
end
end Go.Proofs.YtfiplhnplmadmaaDoor

/- Ranges over maps that the call made: what is still to come, whichever comes next. Conditions: none. -/
namespace Go.Proofs.YtfiplhnplmadmaaDoor
open Go.RowKit Go.ChangeMaps

section
variable {K : Type} {P : Program} {n : Nat} {m : List (Nat × Value)} {w x : World} {o : Oper} {B r : Nat} {l left : List (K × Value)} {kv : K → Value} {kt e t : TypeId} {q : Operand}
/-- Block r ranges over the map at B; left is still to come. -/
def IterB (kv : K → Value) (w : World) (r B : Nat) (left : List (K × Value)) : Prop :=
  ∃ es clock since seen c0, w.heap[B]? = some (.map es clock) ∧ w.heap[r]? = some (.mapIter (some B) since seen c0) ∧ since ≤ c0 ∧ c0 = clock ∧ (∀ e ∈ es.toList, e.born < since) ∧ (es.toList.map (·.born)).Nodup ∧
    (es.toList.filter fun e => !seen.contains e.born).map (fun e => (e.key, e.val)) = left.map (fun p => (kv p.1, p.2))
theorem IterB.lt (h : IterB kv w r B left) : r < w.heap.size := by obtain ⟨_, _, _, _, _, _, h, _⟩ := h; exact (Array.getElem?_eq_some_iff.1 h).1
theorem IterB.kept {row : Option Nat} (h : IterB kv w r B left) (hg : w.grownBy x row) (h1 : row ≠ some B) (h2 : row ≠ some r) : IterB kv x r B left := by
  obtain ⟨es, c, s, sn, c0, a1, a2, a3⟩ := h
  exact ⟨es, c, s, sn, c0, by rw [hg.block B (Array.getElem?_eq_some_iff.1 a1).1 (fun e => h1 e.symm)]; exact a1, by rw [hg.block r (Array.getElem?_eq_some_iff.1 a2).1 (fun e => h2 e.symm)]; exact a2, a3⟩
theorem IterB.row {B' : Nat} {T : TypeId} {sz k : Nat} {v : Value} {xs : List Value} (h : IterB kv w r B left) (hr : w.ownsRow B' T sz v k xs) : v.ownBlock ≠ some B ∧ v.ownBlock ≠ some r := by
  obtain ⟨es, c, s, sn, c0, a1, a2, _⟩ := h
  rcases hr.2 with ⟨rfl, _⟩ | ⟨g1, _, _, rfl, _, hg1, _⟩
  · simp [Value.ownBlock]
  · constructor
    · intro e1
      simp [Value.ownBlock] at e1
      subst e1; rw [a1] at hg1; cases hg1
    · intro e1
      simp [Value.ownBlock] at e1
      subst e1; rw [a2] at hg1; cases hg1
theorem op_range {a : K} (ho : o.op = .range t q) (hq : ev m q = some (.map (some B))) (ht : P.underlying t = some (.map kt e)) (h : MapB kv w B l) :
    Op1 P n m o w (fun u x => ∃ r, u = .pointer (some ⟨r, 0, none⟩) ∧ r = w.heap.size ∧ IterB kv x r B l ∧ x.heap.size = r + 1 ∧ w.grownBy x none) := by
  intro ac ha N Q hN
  obtain ⟨es, cl, h1, h2, h3, h4, h5⟩ := h
  have hg : (getObj B).run P w = .ok (.map es cl) w := by simp [getObj, Sem.run, h1]
  have hrun : (Instr.range t (.map (some B))).run P w = .ok (.pointer (some ⟨w.heap.size, 0, none⟩)) (w.alloc (.mapIter (some B) cl #[] cl)) := by
    simp only [Instr.range, Sem.run_bind, run_underlying ht, Result.andThen_ok, hg, Sem.run_pure]
    rfl
  unfold Oper.wp execOp
  simp only [ho, ha.ev hq, Sem.run_bind, hrun, Result.andThen_ok, Sem.run_pure]
  have hlt := (Array.getElem?_eq_some_iff.1 h1).1
  have hgr := World.grownBy_alloc w (.mapIter (some B) cl #[] cl) none
  refine hN _ _ ⟨w.heap.size, rfl, rfl, ⟨es, cl, cl, #[], cl, ?_, heap_alloc_new w _, Nat.le_refl _, rfl, h5, h4, ?_⟩, by simp, hgr⟩
  · rw [hgr.block B hlt (by simp)]; exact h1
  · rw [← h2]; congr 1; exact List.filter_eq_self.2 (fun _ _ => by simp)
theorem filter_born : ∀ (L1 L2 : List MapEntry) (e : MapEntry), ((L1 ++ e :: L2).map (·.born)).Nodup → (L1 ++ e :: L2).filter (fun x => x.born != e.born) = L1 ++ L2
  | L1, L2, e, h => by
    rw [List.map_append, List.map_cons, List.nodup_append] at h
    obtain ⟨h1, h2, h3⟩ := h
    rw [List.nodup_cons] at h2
    rw [List.filter_append, List.filter_cons]
    simp only [bne_self_eq_false, Bool.false_eq_true, if_false]
    rw [List.filter_eq_self.2, List.filter_eq_self.2]
    · intro y hy
      have : y.born ≠ e.born := fun hq => h2.1 (hq ▸ List.mem_map_of_mem hy)
      simpa using this
    · intro y hy
      have := h3 y.born (List.mem_map_of_mem hy) e.born (by simp)
      simpa using this
/-- The next one: none is left; or one that is left. -/
theorem op_next (ho : o.op = .next q false) (hq : ev m q = some (.pointer (some ⟨r, 0, none⟩))) (h : IterB kv w r B left) :
    Op1 P n m o w (fun u x => (left = [] ∧ u = .tuple #[.bool false] ∧ x = w) ∨
      ∃ p l1 l2, left = l1 ++ p :: l2 ∧ u = .tuple #[.bool true, kv p.1, p.2] ∧ IterB kv x r B (l1 ++ l2) ∧ (Instr.entry (.pointer (some ⟨r, 0, none⟩))).run P x = .ok (.tuple #[kv p.1, p.2]) x ∧ x.heap.size = w.heap.size ∧ w.grownBy x (some r)) := by
  intro ac ha N Q hN
  obtain ⟨es, cl, since, seen, c0, hB, hr, hsc, rfl, hold, hnd, hl⟩ := h
  have hLl : (leftOf es seen).toList = es.toList.filter fun e => !seen.contains e.born := by unfold leftOf; rw [Array.toList_filter]
  unfold Oper.wp execOp
  simp only [ho, ha.ev hq, Sem.run_bind]
  rcases run_next_at (P := P) w o.type r B since c0 seen es c0 hr hB hold hsc with ⟨h0, hrun⟩ | ⟨e, he, w1, hal, hrun⟩
  · simp only [hrun, Result.andThen_ok, Sem.run_pure]
    refine hN _ _ (.inl ⟨?_, rfl, rfl⟩)
    have h1 : (leftOf es seen).toList = [] := by rw [Array.eq_empty_of_size_eq_zero h0]
    rw [← hLl, h1] at hl
    exact List.map_eq_nil_iff.1 hl.symm
  · simp only [hrun, Result.andThen_ok, Sem.run_pure]
    have hem := mem_left he
    rw [hLl] at he
    obtain ⟨L1, L2, hL⟩ := List.append_of_mem he
    rw [hL, List.map_append, List.map_cons] at hl
    obtain ⟨l1, l2', h1, h2, h3⟩ := List.map_eq_append_iff.1 hl.symm
    obtain ⟨p, l2, h4, h5, h6⟩ := List.map_eq_cons_iff.1 h3
    subst h1 h4
    have hkey : kv p.1 = e.key := (Prod.mk.inj h5).1
    have hval : p.2 = e.val := (Prod.mk.inj h5).2
    have hr1 : w1.heap[r]? = some (.mapIter (some B) since seen c0) := by rcases hal with rfl | rfl <;> exact hr
    have hb1 : w1.heap[B]? = some (.map es c0) := by rcases hal with rfl | rfl <;> exact hB
    have hne : B ≠ r := fun e1 => by subst e1; rw [hr] at hB; cases hB
    have hset := Go.MapKept.heap_set (o' := .mapIter (some B) since (seen.push e.born) c0) hr1
    have hb' : (setBlock w1 r (.mapIter (some B) since (seen.push e.born) c0)).heap[B]? = some (.map es c0) := (hset.2 B hne).trans hb1
    have hgr : w.grownBy (setBlock w1 r (.mapIter (some B) since (seen.push e.born) c0)) (some r) := by
      rcases hal with rfl | rfl
      · exact ⟨rfl, rfl, rfl, by simp [setBlock], fun k _ hk => hset.2 k (fun e1 => hk (by rw [e1]))⟩
      · exact ⟨rfl, rfl, rfl, by show _ ≤ (w.heap.setIfInBounds r _).size; simp, fun k _ hk => hset.2 k (fun e1 => hk (by rw [e1]))⟩
    have hsz : (setBlock w1 r (.mapIter (some B) since (seen.push e.born) c0)).heap.size = w.heap.size := by
      rcases hal with rfl | rfl
      · simp [setBlock]
      · show (w.heap.setIfInBounds r _).size = _; simp
    have hen := run_entry_at (P := P) _ r B since seen es c0 e hset.1 hb' hem.1 hnd
    rw [← hkey, ← hval]
    refine hN _ _ (.inr ⟨p, l1, l2, rfl, rfl, ⟨es, c0, since, seen.push e.born, c0, hb', hset.1, hsc, rfl, hold, hnd, ?_⟩, by rw [hen, hkey, hval], hsz, hgr⟩)
    have hf : (es.toList.filter fun x => !(seen.push e.born).contains x.born) = (es.toList.filter fun x => !seen.contains x.born).filter fun x => x.born != e.born := by
      rw [List.filter_filter]
      congr 1
      funext y
      rw [contains_push]
      cases seen.contains y.born <;> cases hq : (y.born == e.born) <;> simp [bne, hq]
    rw [hf, hL, filter_born L1 L2 e, List.map_append, ← h2, ← h6, List.map_append]
    rw [← hL]
    exact (List.filter_sublist.map _).nodup hnd
theorem rn_entry {u : Value} (ho : o.op = .entry q) (hq : ev m q = some (.pointer (some ⟨r, 0, none⟩))) (h : (Instr.entry (.pointer (some ⟨r, 0, none⟩))).run P w = .ok u w) : (execOp (lk m) o).run P w = .ok (.value u) w := by
  unfold execOp
  simp only [ho, lk_ev hq, Sem.run_bind, h, Result.andThen_ok, Sem.run_pure]
end
end Go.Proofs.YtfiplhnplmadmaaDoor

/- Maps that the call made, told by a function: what a key has, if anything; and ranges over them. Conditions: none. -/
namespace Go.Proofs.YtfiplhnplmadmaaDoor
open Go.RowKit

section
variable {K V : Type} [DecidableEq K] {P : Program} {n : Nat} {m : List (Nat × Value)} {w x : World} {o : Oper} {B r c : Nat} {kv : K → Value} {enc : V → Value} {g : K → Option V} {kt e t : TypeId} {q s : Operand} {a : K} {v : V} {left : List (K × V)}
/-- Block B is a map of at most c entries; a key a has g a. -/
def MapO (kv : K → Value) (enc : V → Value) (w : World) (B : Nat) (g : K → Option V) (c : Nat) : Prop := ∃ l, MapB kv w B l ∧ (∀ a, getK l a = (g a).map enc) ∧ l.length ≤ c
theorem MapO.lt (h : MapO kv enc w B g c) : B < w.heap.size := by obtain ⟨l, h, _⟩ := h; exact h.lt
theorem MapO.kept {row : Option Nat} (h : MapO kv enc w B g c) (hg : w.grownBy x row) (hne : row ≠ some B) : MapO kv enc x B g c := by
  obtain ⟨l, h1, h2⟩ := h; exact ⟨l, h1.kept hg hne, h2⟩
theorem MapO.below (h : MapO kv enc w B g c) (hb : Below w.heap.size w x) : MapO kv enc x B g c := h.kept (below_grown hb) (by simp)
theorem MapO.row {B' : Nat} {T : TypeId} {sz k : Nat} {u : Value} {xs : List Value} (h : MapO kv enc w B g c) (hr : w.ownsRow B' T sz u k xs) : u.ownBlock ≠ some B := by
  intro e1
  obtain ⟨l, ⟨es, c', h1, _⟩, _⟩ := h
  rcases hr.2 with ⟨rfl, _⟩ | ⟨g1, _, _, rfl, _, hg1, _⟩
  · simp [Value.ownBlock] at e1
  · simp [Value.ownBlock] at e1
    subst e1; rw [h1] at hg1; cases hg1
theorem MapO.eq {g' : K → Option V} {c' : Nat} (h : MapO kv enc w B g c) (hg : g = g') (hc : c ≤ c') : MapO kv enc w B g' c' := by
  subst hg; obtain ⟨l, h1, h2, h3⟩ := h; exact ⟨l, h1, h2, Nat.le_trans h3 hc⟩
theorem op_makeO (kv : K → Value) (enc : V → Value) (hrun : (execOp (lk m) o).run P w = .ok (.value (.map (some w.heap.size))) (w.alloc (.map #[] 0))) (hok : okOps m o.op = true) (hsel : (match o.op with | .select .. => true | _ => false) = false) :
    Op1 P n m o w (fun u x => ∃ N, u = .map (some N) ∧ N = w.heap.size ∧ x.heap.size = N + 1 ∧ MapO kv enc x N (fun _ => none) 0 ∧ w.grownBy x none) :=
  (op_makeMap kv hrun hok hsel).mono fun u x ⟨N, h1, h2, h3, h4, h5⟩ => ⟨N, h1, h2, h3, ⟨[], h4, fun a => by simp, by simp⟩, h5⟩
theorem putK_len (l : List (K × Value)) (a : K) (v : Value) : (putK l a v).length ≤ l.length + 1 := by unfold putK; split <;> simp
theorem delK_len (l : List (K × Value)) (a : K) : (delK l a).length ≤ l.length := by
  unfold delK; split
  · rename_i i _ _; have := List.length_eraseIdx_le l i; omega
  · exact Nat.le_refl _
theorem op_updateO (KK : KL P kt kv) {q1 : Operand} (ho : o.op = .mapUpdate t q q1 s) (hq : ev m q = some (.map (some B))) (hr : ev m q1 = some (kv a)) (hs : ev m s = some (enc v)) (ht : P.underlying t = some (.map kt e)) (h : MapO kv enc w B g c) :
    Op1 P n m o w (fun _ x => MapO kv enc x B (fun b => if b = a then some v else g b) (c + 1) ∧ x.heap.size = w.heap.size ∧ w.grownBy x (some B)) := by
  obtain ⟨l, h1, h2, h3⟩ := h
  refine (op_mapUpdate KK ho hq hr hs ht h1).mono fun _ x ⟨k1, k2, k3⟩ => ⟨⟨_, k1, fun b => ?_, Nat.le_trans (putK_len _ _ _) (by omega)⟩, k2, k3⟩
  rw [getK_put]
  by_cases e1 : b = a <;> simp [e1, h2]
theorem op_deleteO (KK : KL P kt kv) {q1 : Operand} {t2 : TypeId} (ho : o.op = .call { callee := .builtin .delete, args := #[q, q1], argTypes := #[t, t2] }) (hq : ev m q = some (.map (some B))) (hr : ev m q1 = some (kv a)) (ht : P.underlying t = some (.map kt e)) (h : MapO kv enc w B g c) :
    Op1 P n m o w (fun _ x => MapO kv enc x B (fun b => if b = a then none else g b) c ∧ x.heap.size = w.heap.size ∧ w.grownBy x (some B)) := by
  obtain ⟨l, h1, h2, h3⟩ := h
  intro ac ha N Q hN
  obtain ⟨x, hx, k1, k2, k3⟩ := run_delete (a := a) (t2 := t2) (ty := o.type) KK ht h1
  unfold Oper.wp
  simp [execOp, ho, resolve, invoke, builtin, ha.ev hq, ha.ev hr, hx, Result.andThen]
  refine hN _ _ ⟨⟨_, k1, fun b => ?_, Nat.le_trans (delK_len _ _) h3⟩, k2, k3⟩
  rw [getK_del l a b h1.keys]
  by_cases e1 : b = a <;> simp [e1, h2]
theorem rn_lenO {ts : Array TypeId} (ho : o.op = .call { callee := .builtin .len, args := #[q], argTypes := #[t] }) (hq : ev m q = some (.map (some B))) (ht : P.underlying t = some (.map kt e)) (h : MapO kv enc w B g c) :
    ∃ k : Nat, k ≤ c ∧ (execOp (lk m) o).run P w = .ok (.value (.int .i64 (k : Nat))) w := by
  obtain ⟨l, h1, h2, h3⟩ := h
  exact ⟨l.length, h3, rn_lenMap (ts := ts) ho hq ht h1⟩
theorem op_lenO {ts : Array TypeId} (ho : o.op = .call { callee := .builtin .len, args := #[q], argTypes := #[t] }) (hq : ev m q = some (.map (some B))) (ht : P.underlying t = some (.map kt e)) (h : MapO kv enc w B g c) (hok : okOps m o.op = true) (hsel : (match o.op with | .select .. => true | _ => false) = false) :
    Op1 P n m o w (fun u x => ∃ k : Nat, u = .int .i64 ((k : Nat) : Int) ∧ k ≤ c ∧ w = x) := by
  obtain ⟨k, h1, h2⟩ := rn_lenO (ts := ts) ho hq ht h
  exact (op_run hok hsel h2).mono fun u x ⟨e1, e2⟩ => ⟨k, e1, h1, e2.symm⟩
/-- lt holds just what g has. -/
def Full (g : K → Option V) (lt : List (K × V)) : Prop := (lt.map (·.1)).Nodup ∧ ∀ a v, g a = some v ↔ (a, v) ∈ lt
theorem getK_mem : ∀ (l : List (K × Value)) (a : K) (u : Value), (l.map (·.1)).Nodup → (getK l a = some u ↔ (a, u) ∈ l)
  | [], a, u, _ => by simp
  | p :: r, a, u, h => by
    rw [List.map_cons, List.nodup_cons] at h
    have ih := getK_mem r a u h.2
    rw [getK_cons]
    by_cases e1 : a = p.1
    · rw [if_pos e1]
      constructor
      · intro h1
        have : p.2 = u := Option.some.inj h1
        exact List.mem_cons.2 (.inl (Prod.ext e1 this.symm))
      · intro h1
        rcases List.mem_cons.1 h1 with h2 | h2
        · rw [← h2]
        · exact absurd (e1 ▸ List.mem_map_of_mem (f := (·.1)) h2) h.1
    · rw [if_neg e1, ih]
      constructor
      · exact fun h1 => List.mem_cons_of_mem _ h1
      · intro h1
        rcases List.mem_cons.1 h1 with h2 | h2
        · exact absurd (by rw [← h2]) e1
        · exact h2
omit [DecidableEq K] in
theorem typed_list (g : K → Option V) (enc : V → Value) : ∀ (l : List (K × Value)), (∀ p ∈ l, (g p.1).map enc = some p.2) → ∃ lt : List (K × V), l = lt.map (fun p => (p.1, enc p.2)) ∧ ∀ p ∈ lt, g p.1 = some p.2
  | [], _ => ⟨[], rfl, by simp⟩
  | p :: r, h => by
    obtain ⟨lt, h1, h2⟩ := typed_list g enc r (fun y hy => h y (List.mem_cons_of_mem _ hy))
    have hp := h p (by simp)
    cases hg : g p.1 with
    | none => rw [hg] at hp; cases hp
    | some v =>
      rw [hg] at hp
      have hv : enc v = p.2 := Option.some.inj hp
      refine ⟨(p.1, v) :: lt, by rw [List.map_cons, ← h1, hv], fun y hy => ?_⟩
      rcases List.mem_cons.1 hy with rfl | hy
      · exact hg
      · exact h2 y hy
theorem MapO.list (h : MapO kv enc w B g c) : ∃ lt : List (K × V), MapB kv w B (lt.map fun p => (p.1, enc p.2)) ∧ Full g lt ∧ lt.length ≤ c := by
  obtain ⟨l, h1, h2, h3⟩ := h
  have hn := h1.keys
  obtain ⟨lt, e1, e2⟩ := typed_list g enc l (fun p hp => by rw [← h2]; exact (getK_mem l p.1 p.2 hn).2 hp)
  subst e1
  have hn' : (lt.map (·.1)).Nodup := by rw [List.map_map] at hn; exact hn
  refine ⟨lt, h1, ⟨hn', fun a v => ⟨fun hg => ?_, fun hm => e2 _ hm⟩⟩, by simpa using h3⟩
  have h4 := h2 a
  rw [hg] at h4
  have h5 := (getK_mem _ a (enc v) hn).1 h4
  obtain ⟨p, hp, hq⟩ := List.mem_map.1 h5
  have e3 : p.1 = a := (Prod.mk.inj hq).1
  have e4 := e2 p hp
  rw [e3, hg] at e4
  have : v = p.2 := Option.some.inj e4
  rw [← e3, this]; exact hp
/-- A range over it, what is still to come told as keys and values. -/
def IterO (kv : K → Value) (enc : V → Value) (w : World) (r B : Nat) (left : List (K × V)) : Prop := IterB kv w r B (left.map fun p => (p.1, enc p.2))
omit [DecidableEq K] in
theorem IterO.lt (h : IterO kv enc w r B left) : r < w.heap.size := IterB.lt h
omit [DecidableEq K] in
theorem IterO.kept {row : Option Nat} (h : IterO kv enc w r B left) (hg : w.grownBy x row) (h1 : row ≠ some B) (h2 : row ≠ some r) : IterO kv enc x r B left := IterB.kept h hg h1 h2
omit [DecidableEq K] in
theorem IterO.row {B' : Nat} {T : TypeId} {sz k : Nat} {u : Value} {xs : List Value} (h : IterO kv enc w r B left) (hr : w.ownsRow B' T sz u k xs) : u.ownBlock ≠ some B ∧ u.ownBlock ≠ some r := IterB.row h hr
theorem op_rangeO (a : K) (ho : o.op = .range t q) (hq : ev m q = some (.map (some B))) (ht : P.underlying t = some (.map kt e)) (h : MapO kv enc w B g c) :
    Op1 P n m o w (fun u x => ∃ r, u = .pointer (some ⟨r, 0, none⟩) ∧ r = w.heap.size ∧ x.heap.size = r + 1 ∧ (∃ lt : List (K × V), IterO kv enc x r B lt ∧ Full g lt ∧ lt.length ≤ c) ∧ w.grownBy x none) := by
  obtain ⟨lt, h1, h2, h3⟩ := h.list
  exact (op_range (a := a) ho hq ht h1).mono fun u x ⟨r, k1, k2, k3, k4, k5⟩ => ⟨r, k1, k2, k4, ⟨lt, k3, h2, h3⟩, k5⟩
omit [DecidableEq K] in
theorem op_nextO (ho : o.op = .next q false) (hq : ev m q = some (.pointer (some ⟨r, 0, none⟩))) (h : IterO kv enc w r B left) :
    Op1 P n m o w (fun u x => (left = [] ∧ u = .tuple #[.bool false] ∧ w = x) ∨
      ∃ p l1 l2, left = l1 ++ p :: l2 ∧ u = .tuple #[.bool true, kv p.1, enc p.2] ∧ IterO kv enc x r B (l1 ++ l2) ∧ (Instr.entry (.pointer (some ⟨r, 0, none⟩))).run P x = .ok (.tuple #[kv p.1, enc p.2]) x ∧ x.heap.size = w.heap.size ∧ w.grownBy x (some r)) :=
  (op_next ho hq h).mono fun u x hx => by
    rcases hx with ⟨h1, h2, h3⟩ | ⟨p, l1, l2, h1, h2, h3, h4, h5, h6⟩
    · exact .inl ⟨List.map_eq_nil_iff.1 h1, h2, h3.symm⟩
    · obtain ⟨k1, k2', e1, e2, e3⟩ := List.map_eq_append_iff.1 h1
      obtain ⟨p', k2, e4, e5, e6⟩ := List.map_eq_cons_iff.1 e3
      subst e1 e4 e2 e5 e6
      exact .inr ⟨p', k1, k2, rfl, h2, by unfold IterO; rw [List.map_append]; exact h3, h4, h5, h6⟩
end
section
variable {P : Program} {n : Nat} {m : List (Nat × Value)} {w : World} {o : Oper}
/-- make of no element, room for k: the call's own row. -/
theorem op_makeOwn {α : Type} {enc : α → List Value} {p q : Operand} {base k : Nat} {t e : TypeId} {z : Value} {size by_ : Nat} (ho : o.op = .makeSlice t p q) (hp : ev m p = some (.int .i64 0)) (hq : ev m q = some (.int .i64 ((k : Nat) : Int)))
    (h1 : P.underlying t = some (.slice e)) (hi : (P.info? e).map (fun i => (i.zero, i.size, i.bytes)) = some (some z, size, by_)) (b2 : by_ * k ≤ 281474976710656) (b3 : k ≤ maxLen) (b4 : base ≤ w.heap.size) :
    Op1 P n m o w (fun u x => ∃ N, u = .slice (some ⟨N, 0, none⟩) 0 k ∧ N = w.heap.size ∧ x.ownsRow base e size (.slice (some ⟨N, 0, none⟩) 0 k) ([] : List α).length (([] : List α).flatMap enc) ∧ w.grownBy x none) := by
  intro ac ha N Q hN
  obtain ⟨i, h2, h3, h4, h5⟩ := info_parts hi
  subst h5
  obtain ⟨x, hx, k1, k2⟩ := run_make_own (P := P) w base t e i z size h1 h2 h3 h4 .i64 .i64 k b2 b3 b4
  unfold Oper.wp
  simp [execOp, ho, ha.ev hp, ha.ev hq, hx, Result.andThen]
  exact hN _ _ ⟨w.heap.size, rfl, rfl, k1, k2⟩
end
end Go.Proofs.YtfiplhnplmadmaaDoor

/- A world that is as another was, but for some blocks. Conditions: none. -/
namespace Go.Proofs.YtfiplhnplmadmaaDoor
open Go.RowKit

/-- What was there is as it was, but for the blocks that S tells. -/
structure But (S : Nat → Prop) (w w' : World) : Prop where
  os : w'.os = w.os
  tape : w'.tape = w.tape
  output : w'.output = w.output
  size : w.heap.size ≤ w'.heap.size
  block : ∀ k, k < w.heap.size → ¬ S k → w'.heap[k]? = w.heap[k]?

theorem But.refl (S : Nat → Prop) (w : World) : But S w w := ⟨rfl, rfl, rfl, Nat.le_refl _, fun _ _ _ => rfl⟩
theorem But.trans {S : Nat → Prop} {a b c : World} (h : But S a b) (k : But S b c) : But S a c :=
  ⟨k.os.trans h.os, k.tape.trans h.tape, k.output.trans h.output, Nat.le_trans h.size k.size, fun i hi hs => (k.block i (Nat.lt_of_lt_of_le hi h.size) hs).trans (h.block i hi hs)⟩
theorem But.mono {S S' : Nat → Prop} {w w' : World} (h : But S w w') (hs : ∀ k, k < w.heap.size → S k → S' k) : But S' w w' :=
  ⟨h.os, h.tape, h.output, h.size, fun k hk hn => h.block k hk (fun h1 => hn (hs k hk h1))⟩
theorem But.of_below {S : Nat → Prop} {w w' : World} (h : Below w.heap.size w w') : But S w w' := ⟨h.os, h.tape, h.output, h.size, fun k hk _ => h.block k hk⟩
theorem But.below {S : Nat → Prop} {w w' : World} {B : Nat} (h : But S w w') (hB : B ≤ w.heap.size) (hs : ∀ k, k < w.heap.size → S k → B ≤ k) : Below B w w' :=
  ⟨h.os, h.tape, h.output, h.size, fun k hk => h.block k (by omega) (fun h1 => by have := hs k (by omega) h1; omega)⟩
/-- Two steps, the second one over blocks that may be new. -/
theorem But.trans' {S S' : Nat → Prop} {a b c : World} (h : But S a b) (k : But S' b c) (hs : ∀ i, i < a.heap.size → S' i → S i) : But S a c :=
  ⟨k.os.trans h.os, k.tape.trans h.tape, k.output.trans h.output, Nat.le_trans h.size k.size, fun i hi hn => (k.block i (Nat.lt_of_lt_of_le hi h.size) (fun h1 => hn (hs i hi h1))).trans (h.block i hi hn)⟩
/-- From below B on: what turns are blocks from B on. -/
theorem below_but {S : Nat → Prop} {B : Nat} {a b c : World} (h : Below B a b) (k : But S b c) (hB : B ≤ b.heap.size) (hs : ∀ i, i < b.heap.size → S i → B ≤ i) : Below B a c := h.trans (k.below hB hs)
theorem But.alloc {S : Nat → Prop} {a w : World} (h : But S a w) (o : Obj) : But S a (w.alloc o) :=
  h.trans ⟨rfl, rfl, rfl, by simp, fun k hk _ => Below.heap_alloc _ _ _ hk⟩
theorem But.drew {S : Nat → Prop} {a w : World} (h : But S a w) : But S a w.drew := ⟨h.os, h.tape, h.output, h.size, h.block⟩
theorem But.setCell {S : Nat → Prop} {a w : World} (h : But S a w) {p : Addr} (hp : p.block < a.heap.size → S p.block) (u : Value) : But S a (w.setCell p u) :=
  h.trans' (S' := fun k => k = p.block) ⟨rfl, rfl, rfl, by simp [World.setCell], fun k _ hn => Below.heap_setCell _ _ _ _ hn⟩ (fun i hi e => by subst e; exact hp hi)
theorem But.cell {S : Nat → Prop} {w w' : World} (h : But S w w') {a : Addr} {v : Value} (hs : ¬ S a.block) (hc : w.cell? a = some v) : w'.cell? a = some v := by
  rw [World.cell?_of_block (w := w) (h.block _ (World.block_lt_of_cell? w a hc) hs)]; exact hc
theorem But.frozen {S : Nat → Prop} {w w' : World} (h : But S w w') {a : Addr} (hl : a.block < w.heap.size) (hs : ¬ S a.block) : w'.frozen? a = w.frozen? a := World.frozen?_of_block (w := w) (h.block _ hl hs)
/-- A store into one block. -/
theorem But.store {a w : World} {b : Nat} (h : But (fun x => x = b) a w) (o : Nat) (u : Value) : But (fun x => x = b) a (w.setCell ⟨b, o, none⟩ u) :=
  h.setCell (p := ⟨b, o, none⟩) (fun _ => rfl) u
end Go.Proofs.YtfiplhnplmadmaaDoor

/- 'append(row, text...)' in a region that draws its order. Conditions: none. -/
namespace Go.Proofs.YtfiplhnplmadmaaDoor
open Go.RowKit

theorem row_low {w : World} {B B' : Nat} {e : TypeId} {k : Nat} {v : Value} {n : Nat} {xs : List Value} (h : w.ownsRow B e k v n xs) (hB : B' ≤ B) : w.ownsRow B' e k v n xs := by
  obtain ⟨h1, h2⟩ := h
  refine ⟨h1, ?_⟩
  rcases h2 with h2 | ⟨g, cap, cur, hv, hg, r⟩
  · exact Or.inl h2
  · exact Or.inr ⟨g, cap, cur, hv, Nat.le_trans hB hg, r⟩
/-- An append of a text: the row stays in its block, or goes into a new one. -/
theorem run_append_str_fresh {P : Program} (w : World) (base : Nat) (t u ty e : TypeId) (i : TypeInfo) (ht : P.underlying t = some (.slice e)) (hu : P.underlying u = some .string) (hi : P.info? e = some i) (hz : i.zero = some (.int .u8 0))
    (hsize : i.size = 1) (hby : i.bytes = 1)
    (v : Value) (n : Nat) (xs : List Value) (hown : w.ownsRow base e 1 v n xs) (s : ByteArray)
    (h63 : n + s.size ≤ maxLen) (hbytes : n + s.size ≤ 140737488355328) (hbase : base ≤ w.heap.size) :
    ∃ v' w', (Builtin.append_ #[t, u] ty #[v, .string s]).run P w = .ok v' w' ∧ w'.ownsRow base e 1 v' (n + s.size) (xs ++ Lib.strCells s) ∧ w.grownBy w' v.ownBlock ∧
      (v'.ownBlock = v.ownBlock ∨ ∀ k, v'.ownBlock = some k → w.heap.size ≤ k) := by
  have hsmall : n + s.size ≤ 9223372036854775807 := by simp only [maxLen] at h63; omega
  have hxl : xs.length = n := by simpa using hown.1
  have hown2 := hown
  rcases hown.2 with ⟨rfl, rfl⟩ | ⟨g, cap, cur, rfl, hbg, hg, hnc, hcm, hcs, htake⟩
  · have h0 : w.ownsRow w.heap.size e 1 (.slice none 0 0) 0 xs := ⟨hown.1, Or.inl ⟨rfl, rfl⟩⟩
    obtain ⟨v', w', hr, h2, h3, _⟩ := Lib.run_append_own_string (P := P) w w.heap.size t u ty e i ht hu hi hz hsize hby _ 0 xs h0 s h63 hbytes (Nat.le_refl _)
    exact ⟨v', w', hr, row_low h2 hbase, h3, Or.inr (fun k hk => (h2.lt k hk).1)⟩
  · obtain ⟨v', w', hr, h2, h3, _⟩ := Lib.run_append_own_string (P := P) w base t u ty e i ht hu hi hz hsize hby _ n xs hown s h63 hbytes hbase
    refine ⟨v', w', hr, h2, h3, ?_⟩
    by_cases hroom : n + s.size ≤ cap
    · have hcs' : cur.size = cap := by simpa using hcs
      have hr2 := Lib.run_append_room_string (P := P) w t u ty e i ht hu hi hsize g n cap cur hg s hroom (by omega)
      rw [hr] at hr2
      simp only [Result.ok.injEq] at hr2
      rw [hr2.1]
      exact Or.inl rfl
    · have holds : ∀ j u, xs[j]? = some u → w.cell? ((⟨g, 0, none⟩ : Addr).add j) = some u := hown2.cells (g := g) rfl
      have hr2 := Lib.run_append_grow_string (P := P) w t u ty e i (.int .u8 0) ht hu hi hz ⟨g, 0, none⟩ n cap xs (by rw [hsize]; simpa using hxl) holds s (by omega) (by omega) (by rw [hby]; exact growslice_fits (by omega) (by omega))
      rw [hr] at hr2
      simp only [Result.ok.injEq] at hr2
      rw [hr2.1]
      exact Or.inr (fun k hk => by simp [Value.ownBlock] at hk; omega)
end Go.Proofs.YtfiplhnplmadmaaDoor

/- Steps of a walk over an object's own parts: effects upon a set of blocks, appends that tell where the row went, bytes, maps looked up, rows and maps cleared. Conditions: none. -/
namespace Go.Proofs.YtfiplhnplmadmaaDoor
open Go.RowKit

section
variable {P : Program} {n : Nat} {m : List (Nat × Value)} {w x w0 : World} {o : Oper} {N : Nat} {T : TypeId} {cs : Array Value} {S : Nat → Prop} {v u : Value} {k : Nat}
theorem grown_butU {row : Option Nat} (hg : w.grownBy x row) : But (fun k => row = some k) w x := ⟨hg.os, hg.tape, hg.output, hg.size, fun k hk hn => hg.block k hk (fun e => hn e.symm)⟩
theorem fbU_new (h : But S w0 w) (hg : w.grownBy x none) : But S w0 x := h.trans (But.of_below (grown_below hg))
theorem fbU_call (h : But S w0 w) (hb : Below w.heap.size w x) : But S w0 x := h.trans (But.of_below hb)
theorem fbU_at (h : But S w0 w) (hg : w.grownBy x (some N)) (hN : N < w0.heap.size → S N) : But S w0 x :=
  h.trans' (S' := fun k => some N = some k) (grown_butU hg) (fun i hi e => by cases e; exact hN hi)
/-- Where a row lies: in S, or it was made since a world of n blocks. -/
def InS (S : Nat → Prop) (n : Nat) (v : Value) : Prop := ∀ k, v.ownBlock = some k → S k ∨ n ≤ k
theorem fbU_row (h : But S w0 w) (hi : InS S w0.heap.size v) (hg : w.grownBy x v.ownBlock) : But S w0 x :=
  h.trans' (S' := fun k => v.ownBlock = some k) (grown_butU hg) (fun i hi' e => by
    rcases hi i e with h1 | h1
    · exact h1
    · omega)
theorem row_under {B sz q : Nat} {e : TypeId} {xs : List Value} (h : w.ownsRow B e sz v q xs) (hN : N = w.heap.size) : ∀ i, v.ownBlock = some i → i < N := fun i hi => by have := (h.lt i hi).2; omega
/-- The row stayed in its block, or went into a new one. -/
def Went (w : World) (v u : Value) : Prop := u.ownBlock = v.ownBlock ∨ ∀ k, u.ownBlock = some k → w.heap.size ≤ k
theorem InS.went (h : InS S k v) (hf : Went w v u) (hn : k ≤ w.heap.size) : InS S k u := fun i hi => by
  rcases hf with e | e
  · exact h i (e ▸ hi)
  · exact .inr (Nat.le_trans hn (e i hi))
theorem InS.nil : InS S k (.slice none 0 0) := fun i hi => by simp [Value.ownBlock] at hi
theorem InS.of (h : ∀ i, v.ownBlock = some i → S i) : InS S k v := fun i hi => .inl (h i hi)
theorem InS.low {B : Nat} {e : TypeId} {sz q : Nat} {xs : List Value} (h : w.ownsRow B e sz v q xs) (hB : k ≤ B) : InS S k v := fun i hi => .inr (Nat.le_trans hB (h.lt i hi).1)
/-- What S grows to. -/
def grow' (S : Nat → Prop) (a b : Nat) : Nat → Prop := fun q => S q ∨ (a ≤ q ∧ q < b)
theorem InS.fin {e : TypeId} {sz q B : Nat} {xs : List Value} (h : InS S k v) (hr : w.ownsRow B e sz v q xs) : ∀ i, v.ownBlock = some i → grow' S k w.heap.size i := fun i hi => by
  rcases h i hi with h1 | h1
  · exact .inl h1
  · exact .inr ⟨h1, (hr.lt i hi).2⟩

theorem run_append_went {P : Program} (w : World) (base : Nat) (t ty e : TypeId) (i : TypeInfo) (z : Value) (size bytes : Nat) (ht : P.underlying t = some (.slice e)) (hi : P.info? e = some i) (hz : i.zero = some z)
    (hsize : i.size = size) (hby : i.bytes = bytes) (hzs : z.cells.size = size) (hsz : 0 < size) (v : Value) (n : Nat) (xs : List Value) (hown : w.ownsRow base e size v n xs)
    (a : Addr) (m c : Nat) (news : List Value) (hl : news.length = m * size) (hnews : ∀ j u, news[j]? = some u → w.cell? (a.add j) = some u) (h1 : ∀ u ∈ news, u.oneCell' = true)
    (h63 : n + m ≤ maxLen) (hbytes : (n + m) * bytes ≤ 140737488355328) (hbase : base ≤ w.heap.size) :
    ∃ v' w', (Builtin.append_ #[t, t] ty #[v, .slice (some a) m c]).run P w = .ok v' w' ∧ w'.ownsRow base e size v' (n + m) (xs ++ news) ∧ w.grownBy w' v.ownBlock ∧ Went w v v' := by
  have hsmall : n + m ≤ 9223372036854775807 := by simp only [maxLen] at h63; omega
  rcases hown.2 with ⟨rfl, rfl⟩ | ⟨g, cap, cur, rfl, hbg, hg, hnc, hcm, hcs, htake⟩
  · have h0 : w.ownsRow w.heap.size e size (.slice none 0 0) 0 xs := ⟨hown.1, Or.inl ⟨rfl, rfl⟩⟩
    obtain ⟨v', w', hr, h2, h3, _⟩ := run_append_own (P := P) w w.heap.size t ty e i z size bytes ht hi hz hsize hby hzs hsz _ 0 xs h0 a m c news hl hnews h1 h63 hbytes (Nat.le_refl _)
    exact ⟨v', w', hr, row_low h2 hbase, h3, Or.inr (fun k hk => (h2.lt k hk).1)⟩
  · obtain ⟨v', w', hr, h2, h3, _⟩ := run_append_own (P := P) w base t ty e i z size bytes ht hi hz hsize hby hzs hsz _ n xs hown a m c news hl hnews h1 h63 hbytes hbase
    refine ⟨v', w', hr, h2, h3, ?_⟩
    by_cases hroom : n + m ≤ cap
    · have hfit : n * i.size + news.length ≤ cur.size := by
        rw [hl, hcs, hsize, ← Nat.add_mul]; exact Nat.mul_le_mul_right _ hroom
      have hr2 := run_append_room (P := P) w t ty e i ht hi g n cap cur hg a m c news (by rw [hsize]; exact hl) hnews h1 hroom hfit
      rw [hr] at hr2
      simp only [Result.ok.injEq] at hr2
      rw [hr2.1]
      exact Or.inl rfl
    · have holds : ∀ j u, xs[j]? = some u → w.cell? ((⟨g, 0, none⟩ : Addr).add j) = some u := hown.cells (g := g) rfl
      have hr2 := run_append_grow (P := P) w t ty e i z ht hi hz ⟨g, 0, none⟩ n cap xs (by rw [hsize]; exact hown.1) holds a m c news (by rw [hsize]; exact hl) hnews (by omega) (by omega) (by rw [hby]; exact growslice_fits (by omega) hbytes)
      rw [hr] at hr2
      simp only [Result.ok.injEq] at hr2
      rw [hr2.1]
      exact Or.inr (fun k hk => by simp [Value.ownBlock] at hk; omega)
theorem op_appendF {s q : Operand} {t : TypeId} (ho : o.op = .call { callee := .builtin .append, args := #[s, q], argTypes := #[t, t] })
    (base : Nat) (e : TypeId) {z : Value} {size bytes : Nat} (ht : P.underlying t = some (.slice e)) (hi : (P.info? e).map (fun i => (i.zero, i.size, i.bytes)) = some (some z, size, bytes))
    (hzs : z.cells.size = size) (hsz : Nat.blt 0 size = true) {k : Nat} {xs : List Value} (hs : ev m s = some v) (hown : w.ownsRow base e size v k xs)
    {M q' c : Nat} {ws : Array Value} {T' : TypeId} (hx : ev m q = some (.slice (some ⟨M, 0, none⟩) q' c)) (hb : Blk w M T' ws) (hl : ws.size = q' * size) (h1 : ws.all (·.oneCell') = true)
    (h63 : k + q' ≤ 9223372036854775807) (hbytes : (k + q') * bytes ≤ 140737488355328) (hbase : base ≤ w.heap.size) :
    Op1 P n m o w (fun u x => x.ownsRow base e size u (k + q') (xs ++ ws.toList) ∧ Went w v u ∧ w.grownBy x v.ownBlock) := by
  intro a ha K Q hN
  obtain ⟨i0, hii, hz0, hz1, hz2⟩ := info_parts hi
  obtain ⟨v', w', hr, h2, h3, h4⟩ := run_append_went (P := P) w base t o.type e i0 z size bytes ht hii hz0 hz1 hz2 hzs (by simpa using hsz) v k xs hown ⟨M, 0, none⟩ q' c ws.toList (by simpa using hl)
    (fun j u hu => by rw [Addr.add_lit, Nat.zero_add]; exact hb.cell (by simpa using hu)) (fun u hu => (Array.all_eq_true_iff_forall_mem.1 h1) u (by simpa using hu)) (by unfold maxLen; exact h63) hbytes hbase
  unfold Oper.wp execOp
  simp only [ho, resolve, invoke, builtin, Sem.run_bind, Sem.run_pure, Result.andThen_ok, List.map_toArray, List.map_cons, List.map_nil, ha.ev hs, ha.ev hx, hr]
  exact hN _ _ ⟨h2, h4, h3⟩
theorem strOfNums_bytesU (l : List UInt8) : strOfNums (l.map fun b => ((b.toNat : Nat) : Int)) = ⟨l.toArray⟩ := by
  apply ByteArray.ext
  apply Array.toList_inj.1
  rw [strOfNums_data, List.map_map]
  show _ = l
  have : ((fun n : Int => UInt8.ofNat n.toNat) ∘ fun b : UInt8 => ((b.toNat : Nat) : Int)) = id := by
    funext b
    simp
  rw [this, List.map_id]
/-- Bytes. -/
def u8E (b : UInt8) : List Value := [.int .u8 ((b.toNat : Nat) : Int)]
theorem u8E_len (b : UInt8) : (u8E b).length = 1 := rfl
theorem flat_u8 : ∀ l : List UInt8, l.flatMap u8E = l.map fun b => Value.int .u8 ((b.toNat : Nat) : Int)
  | [] => rfl
  | b :: r => by rw [List.flatMap_cons, List.map_cons, flat_u8 r]; rfl
theorem strCells_flat (s : ByteArray) : Lib.strCells s = s.data.toList.flatMap u8E := by rw [flat_u8]; rfl
theorem op_appendStrF {sl q : Operand} {t t' : TypeId} (ho : o.op = .call { callee := .builtin .append, args := #[sl, q], argTypes := #[t, t'] })
    (base : Nat) (e : TypeId) (ht : P.underlying t = some (.slice e)) (hu : P.underlying t' = some .string) (hi : (P.info? e).map (fun i => (i.zero, i.size, i.bytes)) = some (some (.int .u8 0), 1, 1))
    {l : List UInt8} (hs : ev m sl = some v) (hown : w.ownsRow base e 1 v l.length (l.flatMap u8E)) {s : ByteArray} (hx : ev m q = some (.string s))
    (h63 : l.length + s.size ≤ 140737488355328) (hbase : base ≤ w.heap.size) :
    Op1 P n m o w (fun u x => x.ownsRow base e 1 u (l ++ s.data.toList).length ((l ++ s.data.toList).flatMap u8E) ∧ Went w v u ∧ w.grownBy x v.ownBlock) := by
  intro a ha K Q hN
  obtain ⟨i0, hii, hz0, hz1, hz2⟩ := info_parts hi
  obtain ⟨v', w', hr, h2, h3, h4⟩ := run_append_str_fresh (P := P) w base t t' o.type e i0 ht hu hii hz0 hz1 hz2 v l.length (l.flatMap u8E) hown s (by unfold maxLen; omega) h63 hbase
  unfold Oper.wp execOp
  simp only [ho, resolve, invoke, builtin, Sem.run_bind, Sem.run_pure, Result.andThen_ok, List.map_toArray, List.map_cons, List.map_nil, ha.ev hs, ha.ev hx, hr]
  refine hN _ _ ⟨?_, h4, h3⟩
  rw [List.length_append, List.flatMap_append, ← strCells_flat]
  have e1 : s.data.toList.length = s.size := rfl
  rw [e1]; exact h2
theorem rn_sliceStrTo {t : TypeId} {q r : Operand} {k : IntKind} {s : ByteArray} {i : Int} {j : Nat} (ho : o.op = .slice t q none (some r) none) (hq : ev m q = some (.string s)) (hr : ev m r = some (.int k i)) (ht : P.underlying t = some .string) (hij : i = (j : Nat)) (hj : j ≤ s.size) : (execOp (lk m) o).run P w = .ok (.value (.string (s.extract 0 j))) w := by
  subst hij
  have hrun : (Instr.slice t (.string s) none (some (.int k ((j : Nat) : Int))) none).run P w = .ok (.string (s.extract 0 j)) w := by
    rw [run_slice_string_h (s := s) (ht := ht) (kh := k) (h := ((j : Nat) : Int)) (h0 := by omega) (h2 := by omega)]; rfl
  unfold execOp
  simp only [ho, Option.map_some, Option.map_none, lk_ev hq, lk_ev hr, run_sliceAt_string (h := ht), hrun, Sem.run_bind, Result.andThen_ok, Sem.run_pure]
theorem rn_convOwn {src dst e : TypeId} {q : Operand} {l : List UInt8} {base : Nat} (ho : o.op = .convert src dst q) (hq : ev m q = some v) (hs : P.underlying src = some (.slice e)) (he : P.underlying e = some (.int .u8)) (hd : P.underlying dst = some .string)
    (h : w.ownsRow base e 1 v l.length (l.flatMap u8E)) : (execOp (lk m) o).run P w = .ok (.value (.string ⟨l.toArray⟩)) w := by
  have hrun : (convert src dst v).run P w = .ok (.string ⟨l.toArray⟩) w := by
    rcases h.2 with ⟨rfl, h0⟩ | ⟨g, cap, cur, rfl, hbg, hg, hnc, hcm, hcs, htake⟩
    · have := run_convert_bytes_nil (P := P) (w := w) src e hs he 0 0 dst hd
      obtain rfl : l = [] := List.eq_nil_of_length_eq_zero h0
      exact this
    · rw [← strOfNums_bytesU]
      refine run_convert_bytes_arg w src e hs he g 0 l.length cap _ (by simp) (fun i hi => ?_) dst hd
      have hc := h.cells (g := g) rfl i (.int .u8 ((l[i].toNat : Nat) : Int)) (by rw [flat_u8, List.getElem?_map, List.getElem?_eq_getElem hi]; rfl)
      rw [Addr.add_lit] at hc
      rw [hc]; simp [List.getD, hi]
  unfold execOp
  simp only [ho, lk_ev hq, Sem.run_bind, hrun, Result.andThen_ok, Sem.run_pure]
end
section
variable {K V : Type} [DecidableEq K] {P : Program} {n : Nat} {m : List (Nat × Value)} {w x : World} {o : Oper} {B r c : Nat} {kv : K → Value} {enc : V → Value} {g : K → Option V} {kt e t : TypeId} {q s : Operand} {a : K} {v : V}
theorem rn_lookO {f : V} {z : V} (KK : KL P kt kv) (ho : o.op = .lookup t q s false) (hq : ev m q = some (.map (some B))) (hr : ev m s = some (kv a)) (ht : P.underlying t = some (.map kt e)) (hz : ∀ w : World, (zeroValue e).run P w = .ok (enc z) w) (h : MapO kv enc w B g c) (hf : (g a).getD z = f) :
    (execOp (lk m) o).run P w = .ok (.value (enc f)) w := by
  obtain ⟨l, h1, h2, _⟩ := h
  have h3 := rn_look (a := a) KK ho hq hr ht hz h1
  rw [h3, h2 a, ← hf]
  cases g a <;> rfl
theorem rn_lookOT {f : V} {z : V} {b : Bool} (KK : KL P kt kv) (ho : o.op = .lookup t q s true) (hq : ev m q = some (.map (some B))) (hr : ev m s = some (kv a)) (ht : P.underlying t = some (.map kt e)) (hz : ∀ w : World, (zeroValue e).run P w = .ok (enc z) w) (h : MapO kv enc w B g c) (hf : (g a).getD z = f) (hb : (g a).isSome = b) :
    (execOp (lk m) o).run P w = .ok (.value (.tuple #[enc f, .bool b])) w := by
  obtain ⟨l, h1, h2, _⟩ := h
  have h3 := rn_lookOk (a := a) KK ho hq hr ht hz h1
  rw [h3, h2 a, ← hf, ← hb]
  cases g a <;> rfl
end
section
variable {P : Program} {n : Nat} {m : List (Nat × Value)} {w : World} {o : Oper} {v : Value} {α : Type} {enc : α → List Value} {l : List α} {sz base : Nat} {T : TypeId}
/-- What is left of a row that is cut. -/
theorem row_cut (h : w.ownsRow base T sz v l.length (l.flatMap enc)) (hsz : ∀ y, (enc y).length = sz) (k : Nat) (hk : k ≤ l.length) (h0 : v ≠ .slice none 0 0 ∨ True) : w.ownsRow base T sz (subV v 0 k sz) (l.take k).length ((l.take k).flatMap enc) := by
  have hlt : (l.take k).length = k := by rw [List.length_take]; omega
  have hfl : ((l.take k).flatMap enc).length = k * sz := by rw [flat_len _ (fun y _ => hsz y), hlt]
  refine ⟨by rw [hfl, hlt], ?_⟩
  rcases h.2 with ⟨rfl, h1⟩ | ⟨g, cap, cur, rfl, hg, hh, hnc, hcm, hcs, htk⟩
  · obtain rfl : l = [] := List.eq_nil_of_length_eq_zero h1
    obtain rfl : k = 0 := by simpa using hk
    exact .inl ⟨by simp [subV, sliced], rfl⟩
  · refine .inr ⟨g, cap, cur, by rw [hlt]; simp [subV, sliced, Addr.add], hg, hh, by rw [hlt]; omega, hcm, hcs, ?_⟩
    rw [hlt]
    have h2 : cur.toList.take (k * sz) = (cur.toList.take (l.length * sz)).take (k * sz) := by
      rw [List.take_take]; congr 1; rw [Nat.min_eq_left (Nat.mul_le_mul_right _ hk)]
    rw [h2, htk]
    have h3 : l.flatMap enc = (l.take k).flatMap enc ++ (l.drop k).flatMap enc := by rw [← List.flatMap_append, List.take_append_drop]
    rw [h3, List.take_append_of_le_length (by rw [hfl]; exact Nat.le_refl _), List.take_of_length_le (by rw [hfl]; exact Nat.le_refl _)]
theorem cut_block (h : w.ownsRow base T sz v l.length (l.flatMap enc)) (k : Nat) : (subV v 0 k sz).ownBlock = v.ownBlock := by
  rcases h.2 with ⟨rfl, _⟩ | ⟨g, cap, cur, rfl, _⟩ <;> simp [subV, sliced, Value.ownBlock, Addr.add]
/-- 'clear(row)': its room stays the call's own. -/
theorem op_clearRow {q : Operand} {t : TypeId} {z : Value} (ho : o.op = .call { callee := .builtin .clear, args := #[q], argTypes := #[t] }) (hq : ev m q = some v) (ht : P.underlying t = some (.slice T)) (hv : ∀ w : World, (zeroValue T).run P w = .ok z w) (hzs : z.cells.size = sz) (hz1 : ∀ u ∈ z.cells.toList, u.oneCell' = true)
    (h : w.ownsRow base T sz v l.length (l.flatMap enc)) : Op1 P n m o w (fun _ x => x.ownsRow base T sz v l.length (Builtin.zeroCells z.cells l.length).toList ∧ w.grownBy x v.ownBlock) := by
  intro ac ha N Q hN
  have hzl : (Builtin.zeroCells z.cells l.length).toList.length = l.length * sz := by rw [Array.length_toList, size_zeroCells, hzs]
  have key : ∃ x, (Builtin.clear_ #[t] o.type #[v]).run P w = .ok (.tuple #[]) x ∧ x.ownsRow base T sz v l.length (Builtin.zeroCells z.cells l.length).toList ∧ w.grownBy x v.ownBlock := by
    rcases h.2 with ⟨rfl, h1⟩ | ⟨g, cap, cur, rfl, hg, hh, hnc, hcm, hcs, htk⟩
    · refine ⟨w, by simp [Builtin.clear_, run_underlying ht], ?_, World.grownBy.refl _ _⟩
      rw [h1] at hzl ⊢
      refine ⟨by simpa using hzl, .inl ⟨rfl, rfl⟩⟩
    · by_cases h0 : l.length = 0
      · rw [h0] at hzl h ⊢
        refine ⟨w, by simp [Builtin.clear_, run_underlying ht], ⟨by simpa using hzl, .inr ⟨g, cap, cur, rfl, hg, hh, by omega, hcm, hcs, ?_⟩⟩, World.grownBy.refl _ _⟩
        have : (Builtin.zeroCells z.cells 0).toList = [] := List.eq_nil_of_length_eq_zero (by simpa using hzl)
        rw [this]; simp
      · have hone : ∀ u ∈ (Builtin.zeroCells z.cells l.length).toList, u.oneCell' = true := by
          intro u hu
          simp only [Builtin.zeroCells, Array.toList_map, List.mem_map, Array.toList_range, List.mem_range] at hu
          obtain ⟨i, hi, rfl⟩ := hu
          have hpos : 0 < z.cells.size := by
            rcases Nat.eq_zero_or_pos z.cells.size with q | q
            · rw [q] at hi; simp at hi
            · exact q
          have := Nat.mod_lt i hpos
          rw [getElem!_pos z.cells _ this]
          exact hz1 _ (by simp)
        have hle : l.length * sz ≤ cur.size := by rw [hcs]; exact Nat.mul_le_mul_right _ hnc
        have hst := run_storeCells_at P g 0 T (Builtin.zeroCells z.cells l.length).toList 0 cur w hh (by rw [hzl]; omega) hone
        simp only [Nat.zero_add, List.take_zero, List.nil_append] at hst
        refine ⟨w.setRow g ((Builtin.zeroCells z.cells l.length).toList ++ cur.toList.drop (Builtin.zeroCells z.cells l.length).toList.length).toArray, ?_, ⟨hzl, .inr ⟨g, cap, _, rfl, hg, setRow_heap w g cur _ T _ hh, hnc, hcm, ?_, ?_⟩⟩, ⟨rfl, rfl, rfl, by simp, fun k _ hk => setRow_other w g k _ (fun e => hk (by simp [Value.ownBlock, e]))⟩⟩
        · obtain ⟨q1, hq1⟩ : ∃ q1, l.length = q1 + 1 := ⟨l.length - 1, by omega⟩
          rw [hq1] at hst ⊢
          simp only [Builtin.clear_, run_underlying ht, hv, Sem.run_bind, Result.andThen_ok, hst, List.size_toArray, List.length_cons, List.length_nil, Nat.reduceAdd, Nat.reduceLT, List.getElem?_toArray, List.getElem?_cons_zero]
          rfl
        · simp only [List.size_toArray, List.length_append, List.length_drop, hzl, Array.length_toList]; omega
        · rw [List.take_append_of_le_length (by rw [hzl]; exact Nat.le_refl _), List.take_of_length_le (by rw [hzl]; exact Nat.le_refl _)]
  obtain ⟨x, hx, h1, h2⟩ := key
  unfold Oper.wp execOp
  simp only [ho, resolve, invoke, builtin, Sem.run_bind, Sem.run_pure, Result.andThen_ok, List.map_toArray, List.map_cons, List.map_nil, ha.ev hq, hx]
  exact hN _ _ ⟨h1, h2⟩
end
end Go.Proofs.YtfiplhnplmadmaaDoor

/- slices.Sort on a row of ints that the call owns: what the row holds behind it. Conditions: none. -/
namespace Go.Proofs.YtfiplhnplmadmaaDoor
open Go.RowKit Go.Sort Go.Shelf

/-- The numbers, in order. -/
def srt (l : List Int) : List Int := l.mergeSort fun x y => decide (x ≤ y)
theorem srt_perm (l : List Int) : (srt l).Perm l := List.mergeSort_perm l _
theorem srt_len (l : List Int) : (srt l).length = l.length := (srt_perm l).length_eq
theorem srt_up (l : List Int) : (srt l).Pairwise (· ≤ ·) := by
  have h : (srt l).Pairwise (fun a b => decide (a ≤ b) = true) := List.pairwise_mergeSort (le := fun x y => decide (x ≤ y)) (fun a b c h1 h2 => by simp only [decide_eq_true_eq] at *; omega) (fun a b => by simp only [Bool.or_eq_true, decide_eq_true_eq]; omega) l
  exact h.imp (fun h => by simpa using h)
theorem srt_mem {l : List Int} {x : Int} : x ∈ srt l ↔ x ∈ l := (srt_perm l).mem_iff
theorem flat_intsI : ∀ l : List Int, l.flatMap (intE .i64) = l.map (Value.int .i64)
  | [] => rfl
  | x :: r => by rw [List.flatMap_cons, List.map_cons, flat_intsI r]; rfl
theorem holds_ints {w : World} {g : Nat} {e : TypeId} {cur : Array Value} {l : List Int} (hb : w.heap[g]? = some (.cells cur e (0, 0))) (ht : cur.toList.take l.length = l.map (Value.int .i64)) : Holds (Value.int .i64) w g 0 l.toArray := by
  intro j hj
  have hj' : j < l.length := by simpa using hj
  refine ⟨?_, by simp [World.frozen?, hb]⟩
  have h1 : (cur.toList.take l.length)[j]? = some (Value.int .i64 l[j]) := by rw [ht]; simp [hj']
  rw [List.getElem?_take_of_lt hj'] at h1
  simp only [World.cell?, hb, Nat.zero_add]
  simp only [Option.isSome_none, Bool.false_eq_true, if_false]
  rw [← Array.getElem?_toList, h1]
  simp [hj']
theorem heap_putI {w : World} {g n : Nat} {os : Array Obj} {cur : Array Value} {e : TypeId} {fr : Nat × Nat} (d : Array Int) (hb : w.heap[g]? = some (.cells cur e fr)) :
    (grow (putRow (Value.int .i64) (Sort.ahead w n) g 0 d) os).heap[g]? = some (.cells (putCells (Value.int .i64) 0 d cur) e fr) := by
  have hg : g < w.heap.size := (Array.getElem?_eq_some_iff.1 hb).1
  rw [heap_grow_old _ _ (by simpa using hg)]
  simp [putRow, mapBlock, Sort.ahead, Array.getElem?_modify, hb, onCells]
theorem grown_putI {w : World} {g n : Nat} {os : Array Obj} (d : Array Int) : w.grownBy (grow (putRow (Value.int .i64) (Sort.ahead w n) g 0 d) os) (some g) := by
  refine ⟨rfl, rfl, rfl, by simp, fun k hk hne => ?_⟩
  rw [heap_grow_old _ _ (by simpa using hk)]
  have : g ≠ k := fun e => hne (by rw [e])
  simp [putRow, mapBlock, Sort.ahead, Array.getElem?_modify, this]
theorem take_putI (cur : Array Value) (l : List Int) (h : l.length ≤ cur.size) : (putCells (Value.int .i64) 0 l.toArray cur).toList.take l.length = l.map (Value.int .i64) := by
  apply List.ext_getElem?
  intro j
  by_cases hj : j < l.length
  · rw [List.getElem?_take_of_lt hj, Array.getElem?_toList]
    simp [putCells, hj, show j < cur.size by omega]
  · rw [List.getElem?_take_eq_none (by omega), List.getElem?_eq_none (by simp; omega)]
theorem sortI_any (v : Value) (l : List Int) (base : Nat) (e : TypeId) (w : World) (h : w.ownsRow base e 1 v l.length (l.flatMap (intE .i64))) (hn : v ≠ .slice none 0 0) (hl : l.length < 4611686018427387904) :
    Calls Tryd.prog 45 #[v] w fun e1 w' => e1 = .returned (.tuple #[]) ∧ w'.ownsRow base e 1 v (srt l).length ((srt l).flatMap (intE .i64)) ∧ w.grownBy w' v.ownBlock := by
  obtain ⟨h0, h⟩ := h
  rcases h with ⟨rfl, _⟩ | ⟨g, cap, cur, rfl, hbase, hb, h1, h2, h3, h4⟩
  · exact absurd rfl hn
  rw [flat_intsI, Nat.mul_one] at h4
  have hH := holds_ints hb h4
  refine (Any.slices_Sort_int Tryd.laysI g 0 cap l w hH (Array.getElem?_eq_some_iff.1 hb).1 hl).mono ?_
  rintro e1 w' ⟨rfl, n, os, rfl⟩
  have hle : (srt l).length = l.length := srt_len l
  have hcs : l.length ≤ cur.size := by rw [h3, Nat.mul_one]; exact h1
  refine ⟨rfl, ⟨by rw [flat_intsI]; simp, .inr ⟨g, cap, _, by rw [hle], hbase, heap_putI _ hb, by rw [hle]; exact h1, h2, by simp [putCells, h3], ?_⟩⟩, grown_putI _⟩
  rw [flat_intsI, Nat.mul_one]
  exact take_putI cur (srt l) (by rw [hle]; exact hcs)
end Go.Proofs.YtfiplhnplmadmaaDoor

/- Package disk: its parts; Write. Conditions: texts of less than 10^9 bytes. -/
namespace Go.Proofs.YtfiplhnplmadmaaDoor
open Go.RowKit Go.PlainAid
set_option linter.unusedVariables false


abbrev FileM := List UInt8 × Int × Bool
/-- A file: where its bytes lie; the bytes, how many are safe, whether it stays. -/
abbrev FileG := Value × FileM
abbrev PcT := Int × Int
def fileV (f : FileG) : Value := .agg #[f.1, .int .i64 f.2.2.1, .bool f.2.2.2]
def fz : FileG := (.slice none 0 0, [], 0, false)
def mz : FileM := ([], 0, false)
def pieceE (p : PcT) : List Value := [.int .i64 p.1, .int .i64 p.2]
theorem pieceE_len (p : PcT) : (pieceE p).length = 2 := rfl
theorem intE_len (k : IntKind) (y : Int) : (intE k y).length = 1 := rfl
theorem zone_pieceE : ∀ u ∈ (Value.agg #[.int .i64 0, .int .i64 0]).cells.toList, u.oneCell' = true := by intro u hu; simp [Value.cells] at hu; subst hu; rfl
theorem zeros_piece : ∀ k : Nat, (Builtin.zeroCells (Value.agg #[.int .i64 0, .int .i64 0]).cells k).toList = (List.replicate k ((0, 0) : PcT)).flatMap pieceE := by
  intro k
  induction k with
  | zero => simp [Builtin.zeroCells]
  | succ k ih =>
    rw [List.replicate_succ', List.flatMap_append, ← ih]
    simp only [Builtin.zeroCells, Value.cells, Array.toList_map, Array.toList_range]
    show List.map _ (List.range ((k + 1) * 2)) = List.map _ (List.range (k * 2)) ++ _
    rw [show (k + 1) * 2 = k * 2 + 1 + 1 by omega, List.range_succ, List.range_succ, List.map_append, List.map_append, List.append_assoc]
    congr 1
    simp [pieceE, Nat.mul_mod_left, show (k * 2 + 1) % 2 = 1 by omega]
theorem zrow_pieceE {x : World} {base : Nat} {T : TypeId} {v : Value} {l : List PcT} (h : x.ownsRow base T 2 v l.length (Builtin.zeroCells (Value.agg #[.int .i64 0, .int .i64 0]).cells l.length).toList) : x.ownsRow base T 2 v (l.map fun _ => ((0, 0) : PcT)).length ((l.map fun _ => ((0, 0) : PcT)).flatMap pieceE) := by
  rw [zeros_piece] at h; rw [List.length_map, List.map_const']; exact h
theorem filez (w : World) : (zeroValue 77).run Tryd.prog w = .ok (fileV fz) w := by kernel_rfl
structure DkS where
  fm : Int → Option FileM
  ps : List PcT
  ser : Int
  boots : Int
/-- The rows of the files' bytes: each file's own, in S or made since a world of n blocks. -/
def Fam (S : Nat → Prop) (n : Nat) (w : World) (g : Int → Option FileG) : Prop :=
  (∀ k f, g k = some f → w.ownsRow 0 5 1 f.1 f.2.1.length (f.2.1.flatMap u8E) ∧ InS S n f.1) ∧ ∀ k k' f f' b, g k = some f → g k' = some f' → f.1.ownBlock = some b → f'.1.ownBlock = some b → k = k'
section
variable {S : Nat → Prop} {n : Nat} {w x : World} {g : Int → Option FileG} {a : Int} {f : FileG} {u : Value}
theorem Fam.at (h : Fam S n w g) (hf : (g a).getD fz = f) : w.ownsRow 0 5 1 f.1 f.2.1.length (f.2.1.flatMap u8E) ∧ InS S n f.1 := by
  cases hg : g a with
  | none => rw [hg] at hf; subst hf; exact ⟨World.ownsRow_nil _ _ _ _, InS.nil⟩
  | some f' => rw [hg] at hf; cases hf; exact h.1 a _ hg
theorem Fam.new (h : Fam S n w g) (hg : w.grownBy x none) : Fam S n x g := ⟨fun k f hf => ⟨row_kept_new (h.1 k f hf).1 hg, (h.1 k f hf).2⟩, h.2⟩
theorem Fam.blk {N : Nat} {T : TypeId} {cs : Array Value} (h : Fam S n w g) (hb : Blk w N T cs) (hT : 5 ≠ T) (hg : w.grownBy x (some N)) : Fam S n x g :=
  ⟨fun k f hf => ⟨row_kept_at (h.1 k f hf).1 hg (own_neT (h.1 k f hf).1 hb hT), (h.1 k f hf).2⟩, h.2⟩
theorem Fam.map {V : Type} {enc : V → Value} {B c : Nat} {g2 : Int → Option V} (h : Fam S n w g) (hm : MapO intK enc w B g2 c) (hg : w.grownBy x (some B)) : Fam S n x g :=
  ⟨fun k f hf => ⟨row_kept_at (h.1 k f hf).1 hg (hm.row (h.1 k f hf).1), (h.1 k f hf).2⟩, h.2⟩
theorem Fam.iter {V : Type} {enc : V → Value} {r B : Nat} {lt : List (Int × V)} (h : Fam S n w g) (hm : IterO intK enc w r B lt) (hg : w.grownBy x (some r)) : Fam S n x g :=
  ⟨fun k f hf => ⟨row_kept_at (h.1 k f hf).1 hg (hm.row (h.1 k f hf).1).2, (h.1 k f hf).2⟩, h.2⟩
theorem Fam.row {B sz q : Nat} {e : TypeId} {v : Value} {xs : List Value} (h : Fam S n w g) (hr : w.ownsRow B e sz v q xs) (hT : 5 ≠ e) (hg : w.grownBy x v.ownBlock) : Fam S n x g :=
  ⟨fun k f hf => ⟨row_kept_row (h.1 k f hf).1 hr hg hT, (h.1 k f hf).2⟩, h.2⟩
/-- One file's bytes were appended to. -/
theorem Fam.app (h : Fam S n w g) (hf : (g a).getD fz = f) {l : List UInt8} {sf : Int} {b0 : Bool} (hw : Went w f.1 u) (hr : x.ownsRow 0 5 1 u l.length (l.flatMap u8E)) (hg : w.grownBy x f.1.ownBlock) (hn : n ≤ w.heap.size) :
    Fam S n x (fun b => if b = a then some (u, l, sf, b0) else g b) := by
  have hF := h.at hf
  have hap : ∀ k f2, k ≠ a → g k = some f2 → ∀ b, f2.1.ownBlock = some b → u.ownBlock ≠ some b := by
    intro k f2 hk hf2 b hb hu
    rcases hw with e | e
    · rw [e] at hu
      cases hga : g a with
      | none => rw [hga] at hf; subst hf; simp [fz, Value.ownBlock] at hu
      | some f' => rw [hga] at hf; cases hf; exact hk (h.2 _ _ _ _ _ hf2 hga hb hu)
    · have h1 := e b hu
      have h2 := ((h.1 k f2 hf2).1.lt b hb).2
      omega
  refine ⟨fun k f2 hk => ?_, fun k k' f2 f3 b h2 h3 hb2 hb3 => ?_⟩
  · replace hk : (if k = a then some (u, l, sf, b0) else g k) = some f2 := hk
    by_cases e : k = a
    · rw [if_pos e] at hk; cases hk; exact ⟨hr, hF.2.went hw hn⟩
    · rw [if_neg e] at hk
      refine ⟨(h.1 k f2 hk).1.kept hg ?_, (h.1 k f2 hk).2⟩
      cases hb : f2.1.ownBlock with
      | none => exact .inl rfl
      | some b =>
        refine .inr (fun e2 => ?_)
        cases hga : g a with
        | none => rw [hga] at hf; subst hf; simp [fz, Value.ownBlock] at e2
        | some f' => rw [hga] at hf; cases hf; exact e (h.2 _ _ _ _ _ hk hga hb e2.symm)
  · replace h2 : (if k = a then some (u, l, sf, b0) else g k) = some f2 := h2
    replace h3 : (if k' = a then some (u, l, sf, b0) else g k') = some f3 := h3
    by_cases e : k = a
    · by_cases e' : k' = a
      · rw [e, e']
      · rw [if_pos e] at h2; rw [if_neg e'] at h3; cases h2
        exact absurd hb2 (hap k' f3 e' h3 b hb3)
    · by_cases e' : k' = a
      · rw [if_neg e] at h2; rw [if_pos e'] at h3; cases h3
        exact absurd hb3 (hap k f2 e h2 b hb2)
      · rw [if_neg e] at h2; rw [if_neg e'] at h3; exact h.2 _ _ _ _ _ h2 h3 hb2 hb3
/-- One file's slice stays or is cut; what else is told of it is told anew. -/
theorem Fam.put (h : Fam S n w g) (hf : (g a).getD fz = f) {l : List UInt8} {sf : Int} {b0 : Bool} (hr : w.ownsRow 0 5 1 u l.length (l.flatMap u8E)) (hu : u.ownBlock = f.1.ownBlock) :
    Fam S n w (fun b => if b = a then some (u, l, sf, b0) else g b) := by
  have hF := h.at hf
  refine ⟨fun k f2 hk => ?_, fun k k' f2 f3 b h2 h3 hb2 hb3 => ?_⟩
  · replace hk : (if k = a then some (u, l, sf, b0) else g k) = some f2 := hk
    by_cases e : k = a
    · rw [if_pos e] at hk; cases hk; exact ⟨hr, fun i hi => hF.2 i (hu ▸ hi)⟩
    · rw [if_neg e] at hk; exact h.1 k f2 hk
  · have key : ∀ k f4, (if k = a then some (u, l, sf, b0) else g k) = some f4 → f4.1.ownBlock = some b → ∃ f5, g k = some f5 ∧ f5.1.ownBlock = some b := by
      intro k f4 h4 hb4
      by_cases e : k = a
      · rw [if_pos e] at h4; cases h4
        rw [hu] at hb4
        subst e
        cases hga : g k with
        | none => rw [hga] at hf; subst hf; simp [fz, Value.ownBlock] at hb4
        | some f' => rw [hga] at hf; cases hf; exact ⟨_, rfl, hb4⟩
      · rw [if_neg e] at h4; exact ⟨_, h4, hb4⟩
    obtain ⟨f5, h5, hb5⟩ := key k f2 h2 hb2
    obtain ⟨f6, h6, hb6⟩ := key k' f3 h3 hb3
    exact h.2 _ _ _ _ _ h5 h6 hb5 hb6
theorem Fam.del (h : Fam S n w g) (a : Int) : Fam S n w (fun b => if b = a then none else g b) := by
  have key : ∀ k f, (if k = a then none else g k) = some f → g k = some f := by
    intro k f h; by_cases e : k = a
    · rw [if_pos e] at h; cases h
    · rwa [if_neg e] at h
  exact ⟨fun k f hk => h.1 k f (key k f hk), fun k k' f f' b h1 h2 => h.2 k k' f f' b (key _ _ h1) (key _ _ h2)⟩
theorem Fam.none : Fam S n w (fun _ => Option.none) := ⟨fun k f h => (by cases h), fun k k' f f' b h => (by cases h)⟩
theorem blk_ne_map {V : Type} {enc : V → Value} {N B c : Nat} {T : TypeId} {cs : Array Value} {g2 : Int → Option V} (hb : Blk w N T cs) (hm : MapO intK enc w B g2 c) : N ≠ B := by
  intro e; subst e
  obtain ⟨l, ⟨es, cl, h1, _⟩, _⟩ := hm
  have := hb.symm.trans h1
  cases this
end
/-- A disk that was made, with all its parts. -/
structure DkP (S : Nat → Prop) (n : Nat) (w : World) (d M : Nat) (pv : Value) (g : Int → Option FileG) (c : Nat) (s : DkS) : Prop where
  blk : Blk w d 66 #[.bool true, .map (some M), pv, .int .i64 s.ser, .int .i64 s.boots]
  map : MapO intK fileV w M g c
  row : w.ownsRow 0 74 2 pv s.ps.length (s.ps.flatMap pieceE)
  fam : Fam S n w g
  sd : S d ∨ n ≤ d
  sM : S M ∨ n ≤ M
  sp : InS S n pv
  rel : ∀ k, (g k).map (·.2) = s.fm k
def getF (fm : Int → Option FileM) (a : Int) : FileM := (fm a).getD mz
theorem getF_eq {g : Int → Option FileG} {fm : Int → Option FileM} (h : ∀ k, (g k).map (·.2) = fm k) {a : Int} {f : FileG} (hf : (g a).getD fz = f) : f.2 = getF fm a := by
  unfold getF; rw [← h a, ← hf]; cases g a <;> rfl
def putF (fm : Int → Option FileM) (a : Int) (m : FileM) : Int → Option FileM := fun b => if b = a then some m else fm b
theorem putF_eq {g : Int → Option FileG} {fm : Int → Option FileM} (h : ∀ k, (g k).map (·.2) = fm k) {a : Int} {f : FileG} : ∀ k, ((fun b => if b = a then some f else g b) k).map (·.2) = putF fm a f.2 k := by
  intro k; unfold putF; by_cases e : k = a <;> simp [e, h]
def wrE (n : Int) : Int := if n < 1 ∨ 1073741824 < n then 1 else 0
def wrS (s : DkS) (n : Int) (t : ByteArray) : DkS := if wrE n = 0 then ⟨putF s.fm n ((getF s.fm n).1 ++ t.data.toList, (getF s.fm n).2), s.ps ++ [(n, (t.size : Int))], s.ser, s.boots⟩ else s
theorem wrS_ok {s : DkS} {n : Int} {t : ByteArray} (h : ¬ (n < 1 ∨ 1073741824 < n)) : wrE n = 0 ∧ wrS s n t = ⟨putF s.fm n ((getF s.fm n).1 ++ t.data.toList, (getF s.fm n).2), s.ps ++ [(n, (t.size : Int))], s.ser, s.boots⟩ := by
  have e : wrE n = 0 := by unfold wrE; rw [if_neg h]
  exact ⟨e, by unfold wrS; rw [if_pos e]⟩
theorem wrS_no {s : DkS} {n : Int} {t : ByteArray} (h : n < 1 ∨ 1073741824 < n) : wrE n = 1 ∧ wrS s n t = s := by
  have e : wrE n = 1 := by unfold wrE; rw [if_pos h]
  exact ⟨e, by unfold wrS; rw [if_neg (by omega)]⟩

set_option maxRecDepth 100000 in
theorem dzero_any (d : Nat) (M : Nat) (pv : Value) (ser : Int) (boots : Int) (w : World) (hD : Blk w d 66 #[.bool true, .map (some M), pv, .int .i64 ser, .int .i64 boots]) :
    Calls Tryd.prog 34 #[pt d 0] w fun e w' => e = .returned (.bool false) ∧ w = w' := by
 have hB0 := Below.refl w.heap.size w;have hl_hD := hD.lt;refine co_enter (n := 12) Tryd.func34 rfl rfl rfl [(0, pt d 0)] rfl (fun a s => ?_);refine q2 ?_;refine pk0 (v := .bool false) s rfl fun _ s => q3 ?_;refine pk0 (v := pt d 0) s rfl fun _ s => ?_;refine pk0 (v := .bool false) s rfl fun _ s => ?_;refine pk0 (v := .bool false) s rfl fun _ s => ?_;refine pk0 (v := pt d 0) s rfl fun _ s => ?_;refine pk0 (v := pt d 0) s rfl fun _ s => ?_;refine pk0 (v := pt d 0) s rfl fun _ s => ?_;refine pk (v := .bool true) s rfl (rn_load1 rfl rfl Tryd.isAgg4 (hD.cell rfl)) fun _ s => ?_;refine pk0 (v := .bool false) s rfl fun _ s => ?_;refine pk0 (v := .bool false) s rfl fun _ s => ?_;refine pk0 (v := .bool false) s rfl fun _ s => q4 ?_;refine co_ret1 s rfl rfl ?_;exact ⟨rfl, rfl⟩
set_option maxRecDepth 100000 in
theorem dWrite_any (w0 : World) (S : Nat → Prop) (d : Nat) (M : Nat) (pv : Value) (g : Int → Option FileG) (c : Nat) (s : DkS) (number : Int) (t : ByteArray) (w : World) (hbw : But S w0 w) (hO : DkP S w0.heap.size w d M pv g c s) (hsz : (getF s.fm number).1.length + t.size ≤ 1000000000) (hpl : s.ps.length ≤ 100000) :
    Calls Tryd.prog 28 #[pt d 0, .int .i64 number, .string t] w fun e w' => ∃ (pv' : Value) (g' : Int → Option FileG) (c' : Nat), e = .returned (.int .i64 (wrE number)) ∧ DkP S w0.heap.size w' d M pv' g' c' (wrS s number t) ∧ c' ≤ c + 1 ∧ But (S) w0 w' := by
 have hB0 := hbw;have hz0 := hbw.size;have hz0 := hbw.size;have hl1 := hO.blk.lt;have hl2 := hO.map.lt;have hne3 := blk_ne_map hO.blk hO.map;have hl4 := sl_len (row_sl hO.row pieceE_len);refine co_enter (n := 46) Tryd.func28 rfl rfl rfl [(0, pt d 0), (1, .int .i64 number), (2, .string t)] rfl (fun a o => ?_);refine q2 ?_;refine pk0 (v := .int .i64 0) o rfl fun _ o => q6 ?_;refine pk0 (v := pt d 0) o rfl fun _ o => ?_;refine pw o rfl (op_call (args := #[pt d 0]) (R := fun res xw => res = .bool false ∧ w = xw) rfl rfl rfl (by kernel_rfl) (by kernel_rfl) (Tryd.call34 _ _) (dzero_any d M pv s.ser s.boots w hO.blk) (by rintro e x ⟨rfl, rfl⟩; exact ⟨_, rfl, ⟨rfl, rfl⟩⟩)) ?_;rintro _ _ a7 ⟨rfl, rfl⟩ o;refine q1 ?_;refine co_false o rfl <| q8 ?_;refine pk0 (v := .int .i64 number) o rfl fun _ o => ?_;refine pk0 (v := .bool (decide (number < 1))) o rfl fun _ o => ?_;refine pk0 (v := .bool (decide (number < 1))) o rfl fun _ o => ?_;cases hc13 : (decide (number < 1))
 ·
  rw [hc13] at o;have hp14 : ¬ (number < 1) := of_decide_eq_false hc13;refine pk0 (v := .int .i64 number) o rfl fun _ o => ?_;refine pk0 (v := .bool (decide (number > 1073741824))) o rfl fun _ o => ?_;refine pk0 (v := .bool (decide (number > 1073741824))) o rfl fun _ o => q1 ?_;cases hc18 : (decide (number > 1073741824))
  ·
   rw [hc18] at o;have hp19 : ¬ (number > 1073741824) := of_decide_eq_false hc18;refine co_false o rfl <| q7 ?_;refine pk0 (v := pt d 0) o rfl fun _ o => ?_;refine pk0 (v := pt d 0) o rfl fun _ o => ?_;refine pk0 (v := pt d 1) o rfl fun _ o => ?_;refine pk (v := .map (some M)) o rfl (rn_load1 rfl rfl Tryd.isAgg63 (hO.blk.cell rfl)) fun _ o => ?_;refine pk0 (v := .int .i64 number) o rfl fun _ o => ?_;obtain ⟨f25, hf26⟩ : ∃ z, (g number).getD fz = z := ⟨_, rfl⟩;have hA27 := hO.fam.at hf26;have hl28 := sl_len (row_sl hA27.1 u8E_len);have hgf29 := getF_eq hO.rel hf26;have hgl30 : f25.2.1.length = (getF s.fm number).1.length := by rw [hgf29]
   have hgs31 : f25.2.2.1 = (getF s.fm number).2.1 := by rw [hgf29]
   refine pk (v := .agg #[f25.1, .int .i64 f25.2.2.1, .bool f25.2.2.2]) o rfl (rn_lookO (a := number) (f := f25) (intKL Tryd.underlying3) rfl rfl rfl Tryd.underlying63 filez hO.map hf26) fun _ o => ?_;refine pw o rfl (op_new (v := fun N => pt N 0) (T := 77) (cs := #[.slice none 0 0, .int .i64 0, .bool false]) (by kernel_rfl) (by kernel_rfl) (by kernel_rfl)) ?_;rintro _ w34 a33 ⟨N35, rfl, hN38, hz39, hk37, hg36⟩ o;have ha40 := row_fresh hO.row hN38;have hu41 := row_under hO.row hN38;have ha42 := row_fresh hA27.1 hN38;have hu43 := row_under hA27.1 hN38;have hz44 := hg36.size
   try dsimp only at o
   have hr50 := row_kept_new hA27.1 hg36;refine pwD o rfl (op_storeN rfl rfl rfl (all_cons (row_one hr50) (all_cons rfl (all_cons rfl all_nil))) (by kernel_rfl) hk37 rfl) ?_;rintro _ w46 a45 ⟨hk47, hz48, hg49⟩ o;have hk47' : Blk w46 N35 77 #[f25.1, .int .i64 f25.2.2.1, .bool f25.2.2.2] := hk47;have hz51 := hg49.size;refine q3 ?_;refine pk0 (v := pt N35 0) o rfl fun _ o => ?_;refine pk (v := f25.1) o rfl (rn_load1 rfl rfl Tryd.isAgg75 (hk47'.cell rfl)) fun _ o => ?_;refine pk0 (v := .string t) o rfl fun _ o => ?_;have hr61 := row_kept_at hr50 hg49 (ha42);refine pw o rfl (op_appendStrF rfl 0 5 Tryd.underlying75 Tryd.underlying9 (by kernel_rfl) rfl hr61 rfl (by omega) (by omega)) ?_;rintro v57 w56 a55 ⟨hr58, hwt60, hg59⟩ o;have hF62 := hO.fam.new hg36;have hF63 := hF62.blk hk37 (by decide) hg49;have hz64 := hg59.size;have hF65 := Fam.app (sf := f25.2.2.1) (b0 := f25.2.2.2) hF63 hf26 hwt60 hr58 hg59 (by omega);refine pk0 (v := pt N35 0) o rfl fun _ o => ?_;have hk72 := hk47'.kept hg59 (ha42);refine pwD o rfl (op_store1 rfl rfl rfl (row_one hr58) Tryd.sizeOf75 hk72 rfl) ?_;rintro _ w68 a67 ⟨hk69, hz70, hg71⟩ o;have hk69' : Blk w68 N35 77 #[v57, .int .i64 f25.2.2.1, .bool f25.2.2.2] := hk69;have hz73 := hg71.size;refine q1 <| co_seq ?_;refine dr_gen (fun x => But (S) w0 x ∧ Blk x d 66 #[.bool true, .map (some M), pv, .int .i64 s.ser, .int .i64 s.boots] ∧ Blk x N35 77 #[v57, .int .i64 f25.2.2.1, .bool f25.2.2.2]) (by kernel_rfl) (fun w74 hg75 => ?_) (fun w74 hg75 => ?_)
   ·
    have hz76 := hg75.size;have hB77 := fbU_new hB0 hg36;have hB78 := fbU_at hB77 hg49 (fun hlt => absurd hlt (by omega));have hB79 := fbU_row hB78 hA27.2 hg59;have hB80 := fbU_at hB79 hg71 (fun hlt => absurd hlt (by omega));have hB81 := fbU_new hB80 hg75;have hk82 := hO.blk.kept hg36 (by simp);have hk83 := hk82.kept hg49 (by simp; omega);have hk84 := hk83.kept hg59 (own_neT hr61 hk83 (by decide));have hk85 := hk84.kept hg71 (by simp; omega);have hk86 := hk85.kept hg75 (by simp);have hk87 := hk69'.kept hg75 (by simp);exact ⟨hB81, hk86, hk87⟩
   have hz88 := hg75.size;have hB89 := fbU_new hB0 hg36;have hB90 := fbU_at hB89 hg49 (fun hlt => absurd hlt (by omega));have hB91 := fbU_row hB90 hA27.2 hg59;have hB92 := fbU_at hB91 hg71 (fun hlt => absurd hlt (by omega));have hB93 := fbU_new hB92 hg75;have hk94 := hO.blk.kept hg36 (by simp);have hk95 := hk94.kept hg49 (by simp; omega);have hk96 := hk95.kept hg59 (own_neT hr61 hk95 (by decide));have hk97 := hk96.kept hg71 (by simp; omega);have hk98 := hk97.kept hg75 (by simp);have hk99 := hk69'.kept hg75 (by simp);refine dk0 0 (v := pt d 0) o rfl rfl ⟨hB93, hk98, hk99⟩ fun _ o => ?_;refine dk0 1 (v := pt d 0) o rfl rfl ⟨hB93, hk98, hk99⟩ fun _ o => ?_;refine dk0 2 (v := pt d 1) o rfl rfl ⟨hB93, hk98, hk99⟩ fun _ o => ?_;refine dk 3 (v := .map (some M)) o rfl rfl ⟨hB93, hk98, hk99⟩ (fun x hx => (rn_load1 rfl rfl Tryd.isAgg63 (hx.2.1.cell rfl))) fun _ o => ?_;refine dk0 4 (v := .int .i64 number) o rfl rfl ⟨hB93, hk98, hk99⟩ fun _ o => ?_;refine dk 5 (v := .agg #[v57, .int .i64 f25.2.2.1, .bool f25.2.2.2]) o rfl rfl ⟨hB93, hk98, hk99⟩ (fun x hx => (rn_loadN rfl rfl Tryd.underlying77 rfl (by kernel_rfl) hx.2.2.all)) fun _ o => ?_;have hM111 := hO.map.kept hg36 (by simp);have hM112 := hM111.kept hg49 (by simp; omega);have hM113 := hM112.kept hg59 (hM112.row hr61);have hM114 := hM113.kept hg71 (by simp; omega);have hM115 := hM114.kept hg75 (by simp);refine d1D 6 o rfl rfl (op_updateO (a := number) (v := (v57, f25.2.1 ++ t.data.toList, f25.2.2.1, f25.2.2.2)) (intKL Tryd.underlying3) rfl rfl rfl rfl Tryd.underlying63 hM115) ?_ ?_
   ·
    rintro _ w107 ⟨hm108, hz109, hg110⟩;have hz117 := hg110.size;have hl118 := hm108.lt;have hB119 := fbU_at hB93 hg110 (fun hlt => by rcases hO.sM with hq | hq; exact hq; omega);have hk120 := hk98.kept hg110 (by simp; omega);have hk121 := hk99.kept hg110 (by simp; omega);exact ⟨hB119, hk120, hk121⟩
   rintro _ w107 a106 ⟨hm108, hz109, hg110⟩ o;have hz117 := hg110.size;have hl118 := hm108.lt;refine dr_done (by kernel_rfl) ?_;refine co_then <| q2 ?_;refine pk0 (v := pt d 0) o rfl fun _ o => ?_;refine pk0 (v := pt d 0) o rfl fun _ o => ?_;refine pk0 (v := pt d 0) o rfl fun _ o => ?_;refine pk0 (v := pt d 2) o rfl fun _ o => ?_;have hk123 := hk98.kept hg110 (by simp; omega);refine pk (v := pv) o rfl (rn_load1 rfl rfl Tryd.isAgg64 (hk123.cell rfl)) fun _ o => ?_;refine pk0 (v := .int .i64 number) o rfl fun _ o => ?_;refine pk0 (v := .string t) o rfl fun _ o => ?_;refine pk (v := .int .i64 (t.size : Int)) o rfl (rn_lenStr rfl rfl Tryd.underlying9) fun _ o => ?_;refine pk0 (v := .agg #[.int .i64 number, .int .i64 (t.size : Int)]) o rfl fun _ o => ?_;refine pw o rfl (op_new (v := fun N => .slice (some ⟨N, 0, none⟩) 1 1) (T := 74) (cs := #[.int .i64 number, .int .i64 (t.size : Int)]) (by kernel_rfl) (by kernel_rfl) (by kernel_rfl)) ?_;rintro _ w130 a129 ⟨N131, rfl, hN134, hz135, hk133, hg132⟩ o;have hr137 := row_kept_new hO.row hg36;have hr138 := row_kept_at hr137 hg49 (ha40);have hr139 := row_kept_row hr138 hr61 hg59 (by decide);have hr140 := row_kept_at hr139 hg71 (ha40);have hr141 := row_kept_new hr140 hg75;have hr142 := row_kept_at hr141 hg110 (hM115.row hr141);have ha136 := row_fresh hr142 hN134;have hu143 := row_under hr142 hN134;have hr145 := row_kept_at hr58 hg71 (own_neT hr58 hk72 (by decide));have hr146 := row_kept_new hr145 hg75;have hr147 := row_kept_at hr146 hg110 (hM115.row hr146);have ha144 := row_fresh hr147 hN134;have hu148 := row_under hr147 hN134;have hz149 := hg132.size
   try dsimp only at o
   have hr156 := row_kept_new hr142 hg132;refine pw o rfl (op_appendF rfl 0 74 (z := .agg #[.int .i64 0, .int .i64 0]) (size := 2) (bytes := 16) Tryd.underlying64 (by kernel_rfl) rfl rfl rfl hr156 rfl hk133 rfl (by kernel_rfl) (by first | omega | (simp only [List.length_nil, List.length_append, List.length_cons, List.length_take, List.length_drop]; omega)) (by first | omega | (simp only [List.length_nil, List.length_append, List.length_cons, List.length_take, List.length_drop]; omega)) (by omega)) ?_;rintro v152 w151 a150 ⟨hr153, hwt155, hg154⟩ o;have hr153' : w151.ownsRow 0 74 2 v152 ((s.ps ++ [(number, (t.size : Int))]).length) ((s.ps ++ [(number, (t.size : Int))]).flatMap pieceE) := row_push (y := (number, (t.size : Int))) hr153 rfl rfl;have hz157 := hg154.size;refine pk0 (v := pt d 0) o rfl fun _ o => ?_;refine pk0 (v := pt d 2) o rfl fun _ o => ?_;have hk165 := hk123.kept hg132 (by simp);have hk166 := hk165.kept hg154 (own_neT hr156 hk165 (by decide));refine pwD o rfl (op_store1 rfl rfl rfl (row_one hr153') Tryd.sizeOf64 hk166 rfl) ?_;rintro _ w161 a160 ⟨hk162, hz163, hg164⟩ o;have hk162' : Blk w161 d 66 #[.bool true, .map (some M), v152, .int .i64 s.ser, .int .i64 s.boots] := hk162;have hz167 := hg164.size;refine q3 ?_;refine pk0 (v := .int .i64 0) o rfl fun _ o => q4 ?_;refine co_ret1 o rfl rfl ?_;have hM169 := hm108.kept hg132 (by simp);have hM170 := hM169.kept hg154 (hM169.row hr156);have hM171 := hM170.kept hg164 (by simp; omega);have hr172 := row_kept_at hr153' hg164 (own_neT hr153' hk166 (by decide));have hF173 := hF65.blk hk72 (by decide) hg71;have hF174 := hF173.new hg75;have hF175 := hF174.map hM115 hg110;have hF176 := hF175.new hg132;have hF177 := hF176.row hr156 (by decide) hg154;have hF178 := hF177.blk hk166 (by decide) hg164;have hB179 := fbU_at hB93 hg110 (fun hlt => by rcases hO.sM with hq | hq; exact hq; omega);have hB180 := fbU_new hB179 hg132;have hB181 := fbU_row hB180 hO.sp hg154;have hB182 := fbU_at hB181 hg164 (fun hlt => by rcases hO.sd with hq | hq; exact hq; omega);have hW := wrS_ok (s := s) (t := t) (show ¬ (number < 1 ∨ 1073741824 < number) by omega);have hgf := getF_eq hO.rel hf26;exact ⟨v152, _, _, by rw [hW.1], by rw [hW.2]; exact ⟨hk162', hM171, hr172, hF178, hO.sd, hO.sM, (hO.sp.went hwt155 (by omega)), by rw [← hgf]; exact putF_eq hO.rel⟩, by omega, hB182⟩
  rw [hc18] at o;have hp183 : number > 1073741824 := of_decide_eq_true hc18;refine co_true o rfl <| q2 ?_;refine pk0 (v := .int .i64 1) o rfl fun _ o => q5 ?_;refine co_ret1 o rfl rfl ?_;have hW := wrS_no (s := s) (t := t) (show number < 1 ∨ 1073741824 < number by omega);exact ⟨pv, g, c, by rw [hW.1], by rw [hW.2]; exact ⟨hO.blk, hO.map, hO.row, hO.fam, hO.sd, hO.sM, hO.sp, hO.rel⟩, by omega, hB0⟩
 rw [hc13] at o;have hp185 : number < 1 := of_decide_eq_true hc13;refine psk o rfl fun _ o => ?_;refine psk o rfl fun _ o => ?_;refine pk0 (v := .bool true) o rfl fun _ o => q1 ?_;refine co_true o rfl <| q2 ?_;refine pk0 (v := .int .i64 1) o rfl fun _ o => q5 ?_;refine co_ret1 o rfl rfl ?_;have hW := wrS_no (s := s) (t := t) (show number < 1 ∨ 1073741824 < number by omega);exact ⟨pv, g, c, by rw [hW.1], by rw [hW.2]; exact ⟨hO.blk, hO.map, hO.row, hO.fam, hO.sd, hO.sM, hO.sp, hO.rel⟩, by omega, hB0⟩
end Go.Proofs.YtfiplhnplmadmaaDoor

/- Package disk: forget, Pending, Sync, Data, Serial, Boots. Conditions: sums of less than 10^12. -/
namespace Go.Proofs.YtfiplhnplmadmaaDoor
open Go.RowKit Go.PlainAid
set_option linter.unusedVariables false


def sumP (l : List PcT) : Int := l.foldl (fun n p => n + p.2) 0
theorem takeD_at {α : Type} {l : List α} {i : Nat} {y : α} (h : l[i]? = some y) : l.take (i + 1) = l.take i ++ [y] := by rw [List.take_add_one, h]; rfl
theorem sumP_snoc (l : List PcT) (p : PcT) : sumP (l ++ [p]) = sumP l + p.2 := by unfold sumP; rw [List.foldl_append]; rfl
theorem sumP_at {l : List PcT} {i : Nat} {y : PcT} (h : l[i]? = some y) : sumP (l.take (i + 1)) = sumP (l.take i) + y.2 := by rw [takeD_at h, sumP_snoc]
def synF (fm : Int → Option FileM) (ps : List PcT) : Int → Option FileM := ps.foldl (fun fm p => putF fm p.1 ((getF fm p.1).1, ((getF fm p.1).1.length : Int), true)) fm
theorem synF_at {fm : Int → Option FileM} {l : List PcT} {i : Nat} {y : PcT} (h : l[i]? = some y) : synF fm (l.take (i + 1)) = putF (synF fm (l.take i)) y.1 ((getF (synF fm (l.take i)) y.1).1, ((getF (synF fm (l.take i)) y.1).1.length : Int), true) := by
  rw [takeD_at h]; unfold synF; rw [List.foldl_append]; rfl
def synS (s : DkS) : DkS := ⟨synF s.fm s.ps, [], s.ser, s.boots⟩
def forS (s : DkS) : DkS := ⟨s.fm, [], s.ser, s.boots⟩
def datF (fm : Int → Option FileM) (k : Int) : ByteArray := ⟨(getF fm k).1.toArray⟩
/-- ys are the files' numbers, rising. -/
def KeysF (fm : Int → Option FileM) (ys : List Int) : Prop := ys.Pairwise (· < ·) ∧ ∀ k, k ∈ ys ↔ (fm k).isSome = true
theorem fun_eq {g g2 : Int → Option FileG} {w : World} {M c c2 : Nat} (h : MapO intK fileV w M g c) (e : g = g2) (hc : c ≤ c2) : MapO intK fileV w M g2 c2 := h.eq e hc
theorem perm_snoc {α : Type} {A L1 L2 : List α} {p : α} {lt : List α} {ls : List α} (h : (A ++ ls).Perm lt) (e : ls = L1 ++ p :: L2) : ((A ++ [p]) ++ (L1 ++ L2)).Perm lt := by
  subst e
  refine List.Perm.trans ?_ h
  rw [List.append_assoc]
  exact List.Perm.append_left A (by rw [List.singleton_append]; exact List.perm_middle.symm)
theorem keys_of {g : Int → Option FileG} {fm : Int → Option FileM} (hr : ∀ k, (g k).map (·.2) = fm k) {lt : List (Int × FileG)} (hf : Full g lt) {ks : List Int} (hp : (ks ++ ([] : List (Int × FileG)).map (·.1)).Perm (lt.map (·.1))) : KeysF fm (srt ks) := by
  have hp' : ks.Perm (lt.map (·.1)) := by simpa using hp
  constructor
  · have hn : (srt ks).Nodup := (srt_perm ks).symm.nodup (hp'.symm.nodup hf.1)
    exact List.Pairwise.imp₂ (fun {a b} h1 h2 => by have h3 : a ≤ b := h1; have h4 : a ≠ b := h2; omega) (srt_up ks) hn
  · intro k
    rw [srt_mem, hp'.mem_iff, List.mem_map]
    rw [← hr k]
    constructor
    · rintro ⟨q, hq, rfl⟩
      have := (hf.2 q.1 q.2).2 hq
      rw [this]; rfl
    · intro h
      cases hg : g k with
      | none => rw [hg] at h; cases h
      | some f => exact ⟨(k, f), (hf.2 k f).1 hg, rfl⟩

set_option maxRecDepth 100000 in
theorem dforget_any (w0 : World) (S : Nat → Prop) (d : Nat) (M : Nat) (pv : Value) (g : Int → Option FileG) (c : Nat) (s : DkS) (w : World) (hbw : But S w0 w) (hO : DkP S w0.heap.size w d M pv g c s) :
    Calls Tryd.prog 36 #[pt d 0] w fun e w' => ∃ (pv' : Value), e = .returned (.tuple #[]) ∧ DkP S w0.heap.size w' d M pv' g c (forS s) ∧ But (S) w0 w' := by
 have hB0 := hbw;have hz0 := hbw.size;have hz0 := hbw.size;have hl1 := hO.blk.lt;have hl2 := hO.map.lt;have hne3 := blk_ne_map hO.blk hO.map;have hl4 := sl_len (row_sl hO.row pieceE_len);refine co_enter (n := 14) Tryd.func36 rfl rfl rfl [(0, pt d 0)] rfl (fun a o => ?_);refine q2 ?_;refine pk0 (v := pt d 0) o rfl fun _ o => ?_;refine pk0 (v := pt d 0) o rfl fun _ o => ?_;refine pk0 (v := pt d 2) o rfl fun _ o => ?_;refine pk (v := pv) o rfl (rn_load1 rfl rfl Tryd.isAgg64 (hO.blk.cell rfl)) fun _ o => ?_;refine pwD o rfl (op_clearRow (z := .agg #[.int .i64 0, .int .i64 0]) rfl rfl Tryd.underlying64 (fun w => by kernel_rfl) (by rfl) zone_pieceE hO.row) ?_;rintro _ w10 a9 ⟨hr11, hg12⟩ o;have hz13 := hg12.size;have hr14 := zrow_pieceE hr11;refine q1 <| co_reg ?_;refine pk0 (v := pt d 0) o rfl fun _ o => ?_;refine pk0 (v := pt d 0) o rfl fun _ o => ?_;refine pk0 (v := pt d 0) o rfl fun _ o => ?_;refine pk0 (v := pt d 2) o rfl fun _ o => ?_;have hk19 := hO.blk.kept hg12 (own_neT hO.row hO.blk (by decide));refine pk (v := pv) o rfl (rn_load1 rfl rfl Tryd.isAgg64 (hk19.cell rfl)) fun _ o => ?_;have hr21 := row_cut hr14 pieceE_len 0 (by omega) (.inr trivial);refine pk (v := subV pv 0 0 2) o rfl (rn_sliceTo rfl rfl rfl Tryd.underlying64 Tryd.sizeOf74 (row_sl hr14 pieceE_len) (by omega) (by omega)) fun _ o => ?_;refine pk0 (v := pt d 0) o rfl fun _ o => ?_;refine pk0 (v := pt d 2) o rfl fun _ o => ?_;refine pwD o rfl (op_store1 rfl rfl rfl (row_one hr21) Tryd.sizeOf64 hk19 rfl) ?_;rintro _ w26 a25 ⟨hk27, hz28, hg29⟩ o;have hk27' : Blk w26 d 66 #[.bool true, .map (some M), subV pv 0 0 2, .int .i64 s.ser, .int .i64 s.boots] := hk27;have hz30 := hg29.size;refine pl_nil ?_;refine co_ret0n o rfl ?_;have hM31 := hO.map.kept hg12 (hO.map.row hO.row);have hM32 := hM31.kept hg29 (by simp; omega);have hr33 := row_kept_at hr21 hg29 (own_neT hr21 hk19 (by decide));have hF34 := hO.fam.row hO.row (by decide) hg12;have hF35 := hF34.blk hk19 (by decide) hg29;have hB36 := fbU_row hB0 hO.sp hg12;have hB37 := fbU_at hB36 hg29 (fun hlt => by rcases hO.sd with hq | hq; exact hq; omega);exact ⟨_, rfl, ⟨hk27', hM32, (row_eq hr33 (show _ = ([] : List PcT) from by simp)), hF35, hO.sd, hO.sM, (show InS (S) w0.heap.size (subV pv 0 0 2) from fun qi hqi => hO.sp qi ((cut_block hr14 0) ▸ hqi)), hO.rel⟩, hB37⟩
set_option maxRecDepth 100000 in
theorem dPending_any (d : Nat) (M : Nat) (pv : Value) (ser : Int) (boots : Int) (l : List PcT) (w : World) (hD : Blk w d 66 #[.bool true, .map (some M), pv, .int .i64 ser, .int .i64 boots]) (hs : SliceOf pieceE 2 w pv l) (hyy : ∀ z ∈ l, (fun _ => True) z) (hsb : ∀ i, 0 ≤ sumP (l.take i) ∧ sumP (l.take i) ≤ 1000000000000) :
    Calls Tryd.prog 35 #[pt d 0] w fun e w' => e = .returned (.int .i64 (sumP l)) ∧ Below w.heap.size w w' := by
 have hB0 := Below.refl w.heap.size w;have hl_hD := hD.lt;have hl_hs := sl_len hs;refine co_enter (n := 23) Tryd.func35 rfl rfl rfl [(0, pt d 0)] rfl (fun a s => ?_);refine q2 ?_;refine pk0 (v := .int .i64 0) s rfl fun _ s => q6 ?_;refine pk0 (v := pt d 0) s rfl fun _ s => ?_;refine pw s rfl (op_call (args := #[pt d 0]) (R := fun res xw => res = .bool false ∧ w = xw) rfl rfl rfl (by kernel_rfl) (by kernel_rfl) (Tryd.call34 _ _) (dzero_any d M pv ser boots w hD) (by rintro e x ⟨rfl, rfl⟩; exact ⟨_, rfl, ⟨rfl, rfl⟩⟩)) ?_;rintro _ _ a3 ⟨rfl, rfl⟩ s;refine q1 ?_;refine co_false s rfl <| q7 ?_;refine pk0 (v := .int .i64 0) s rfl fun _ s => q6 ?_;refine pk0 (v := pt d 0) s rfl fun _ s => ?_;refine pk0 (v := pt d 0) s rfl fun _ s => ?_;refine pk0 (v := pt d 2) s rfl fun _ s => ?_;refine pk (v := pv) s rfl (rn_load1 rfl rfl Tryd.isAgg64 (hD.cell rfl)) fun _ s => ?_;refine pk (v := .int .i64 (l.length : Int)) s rfl (rn_len rfl rfl Tryd.underlying64 hs) fun _ s => ?_;refine pk0 (v := .int .i64 0) s rfl fun _ s => q1 <| wp_block ?_;have s : Slots 23 [(0, pt d 0), (3, .int .i64 0), (11, pv), (12, .int .i64 (l.length : Int)), (13, .int .i64 0)] _ := s.sub ⟨rfl, rfl, rfl, rfl, rfl, trivial⟩;refine co_loop (fun mm a x => ∃ (i : Nat), Slots 23 [(0, pt d 0), (3, .int .i64 (sumP (l.take i))), (11, pv), (12, .int .i64 (l.length : Int)), (13, .int .i64 (i : Int))] a ∧ mm = l.length - i ∧ (i ≤ l.length) ∧ Below w.heap.size w x ∧ Blk x d 66 #[.bool true, .map (some M), pv, .int .i64 ser, .int .i64 boots]) (l.length - 0) ?_ ?_
 · exact ⟨0, s.sub ⟨rfl, (slot_eq rfl (congrArg (Value.int .i64) (by first | rfl | (rw [sumP_at (by assumption)])))), rfl, rfl, (slot_eq rfl (congrArg (Value.int .i64) (by first | rfl | omega))), trivial⟩, rfl, by omega, hB0, hD⟩
 · rintro k14 a15 w16 ⟨i, s, rfl, hi17, hB18, hk19⟩
   have hz20 := hB18.size;have hl21 := hk19.lt;have hsb1 := hsb i;have hsb2 := hsb (i + 1);refine q2 ?_;refine pk0 (v := .bool (decide ((i : Int) < (l.length : Int)))) s rfl fun _ s => q1 <| co_seq ?_;cases hc23 : (decide ((i : Int) < (l.length : Int)))
   ·
    rw [hc23] at s;have hp24 : ¬ ((i : Int) < (l.length : Int)) := of_decide_eq_false hc23;refine co_false s rfl <| wp_exit <| co_thenX <| co_thenX <| qx <| q2 ?_;refine pk0 (v := .int .i64 (sumP (l.take i))) s rfl fun _ s => ?_;refine pk0 (v := .int .i64 (sumP (l.take i))) s rfl fun _ s => q4 ?_;refine co_ret1 s rfl rfl ?_;exact ⟨by rw [List.take_of_length_le (by omega)], hB18⟩
   rw [hc23] at s;have hp27 : (i : Int) < (l.length : Int) := of_decide_eq_true hc23;refine co_true s rfl <| q0 <| co_seq <| wp_block <| q2 ?_;obtain ⟨y28, hy28⟩ : ∃ z, l[i]? = some z := ⟨_, List.getElem?_eq_getElem (by first | omega | (simp; done) | (simp; omega))⟩;have oky28 := hyy _ (List.mem_of_getElem? hy28);have hsa := sumP_at hy28;refine pk (v := pt (blkOf pv) (offOf pv + i * 2)) s rfl (rn_index rfl rfl rfl Tryd.underlying64 Tryd.sizeOf74 (hs.below hB18) (by omega) (by first | omega | (simp; done) | (simp; omega))) fun _ s => ?_;refine pk (v := .agg #[.int .i64 y28.1, .int .i64 y28.2]) s rfl (rn_loadN rfl rfl Tryd.underlying74 rfl (by kernel_rfl) (sl_at (hs.below hB18) hy28)) fun _ s => ?_;refine pw s rfl (op_new (v := fun N => pt N 0) (T := 74) (cs := #[.int .i64 0, .int .i64 0]) (by kernel_rfl) (by kernel_rfl) (by kernel_rfl)) ?_;rintro _ w32 a31 ⟨N33, rfl, hN36, hz37, hk35, hg34⟩ s;have hz38 := hg34.size
   try dsimp only at s
   refine pwD s rfl (op_storeN rfl rfl rfl (by kernel_rfl) (by kernel_rfl) hk35 rfl) ?_;rintro _ w40 a39 ⟨hk41, hz42, hg43⟩ s;have hk41' : Blk w40 N33 74 #[.int .i64 y28.1, .int .i64 y28.2] := hk41;have hz44 := hg43.size;refine q1 <| co_reg ?_;refine pk0 (v := .int .i64 (sumP (l.take i))) s rfl fun _ s => ?_;refine pk0 (v := pt N33 1) s rfl fun _ s => ?_;refine pk (v := .int .i64 y28.2) s rfl (rn_load1 rfl rfl Tryd.isAgg3 (hk41'.cell rfl)) fun _ s => ?_;refine pk (v := .int .i64 ((sumP (l.take i)) + y28.2)) s rfl (rn_arith rfl rfl rfl rfl rfl rfl (IntWalk.i64_in _ (by omega))) fun _ s => ?_;refine pk0 (v := .int .i64 ((sumP (l.take i)) + y28.2)) s rfl fun _ s => pl_nil <| co_blockN <| co_then <| co_reg ?_;refine pk (v := .int .i64 ((i + 1 : Nat) : Int)) s rfl (rn_arith' rfl rfl rfl rfl rfl rfl (IntWalk.i64_in _ (by omega)) (by omega)) fun _ s => ?_;refine pk0 (v := .int .i64 ((i + 1 : Nat) : Int)) s rfl fun _ s => q1 ?_;refine ⟨(l.length - (i + 1)), by omega, ?_⟩;have hB52 := hb_new hB18 hg34;have hB53 := hb_at hB52 hg43 (by omega);have hk54 := hk19.kept hg34 (by simp);have hk55 := hk54.kept hg43 (by simp; omega);exact ⟨i + 1, s.sub ⟨rfl, (slot_eq rfl (congrArg (Value.int .i64) (by first | rfl | (rw [sumP_at (by assumption)])))), rfl, rfl, rfl, trivial⟩, rfl, by omega, hB53, hk55⟩
set_option maxRecDepth 100000 in
theorem dSync_any (w0 : World) (S : Nat → Prop) (d : Nat) (M : Nat) (pv : Value) (g : Int → Option FileG) (c : Nat) (s : DkS) (w : World) (hbw : But S w0 w) (hO : DkP S w0.heap.size w d M pv g c s) (hsb : ∀ i, 0 ≤ sumP (s.ps.take i) ∧ sumP (s.ps.take i) ≤ 1000000000000) :
    Calls Tryd.prog 13 #[pt d 0] w fun e w' => ∃ (pv' : Value) (g' : Int → Option FileG) (c' : Nat), e = .returned (.int .i64 (sumP s.ps)) ∧ DkP S w0.heap.size w' d M pv' g' c' (synS s) ∧ c' ≤ c + s.ps.length ∧ But (S) w0 w' := by
 have hB0 := hbw;have hz0 := hbw.size;have hz0 := hbw.size;have hl1 := hO.blk.lt;have hl2 := hO.map.lt;have hne3 := blk_ne_map hO.blk hO.map;have hl4 := sl_len (row_sl hO.row pieceE_len);refine co_enter (n := 43) Tryd.func13 rfl rfl rfl [(0, pt d 0)] rfl (fun a o => ?_);refine q2 ?_;refine pk0 (v := .int .i64 0) o rfl fun _ o => q6 ?_;refine pk0 (v := pt d 0) o rfl fun _ o => ?_;refine pw o rfl (op_call (args := #[pt d 0]) (R := fun res xw => res = .bool false ∧ w = xw) rfl rfl rfl (by kernel_rfl) (by kernel_rfl) (Tryd.call34 _ _) (dzero_any d M pv s.ser s.boots w hO.blk) (by rintro e x ⟨rfl, rfl⟩; exact ⟨_, rfl, ⟨rfl, rfl⟩⟩)) ?_;rintro _ _ a7 ⟨rfl, rfl⟩ o;refine q1 ?_;refine co_false o rfl <| q7 ?_;refine pk0 (v := pt d 0) o rfl fun _ o => ?_;refine pw o rfl (op_call (args := #[pt d 0]) (R := fun res xw => res = .int .i64 (sumP s.ps) ∧ Below w.heap.size w xw) rfl rfl rfl (by kernel_rfl) (by kernel_rfl) (Tryd.call35 _ _) (dPending_any d M pv s.ser s.boots s.ps w hO.blk (row_sl hO.row pieceE_len) (fun _ _ => trivial) hsb) (by rintro e x ⟨rfl, hb13⟩; exact ⟨_, rfl, ⟨rfl, hb13⟩⟩)) ?_;rintro _ w12 a11 ⟨rfl, hb13⟩ o;have hz14 := hb13.size;refine pk0 (v := .int .i64 (sumP s.ps)) o rfl fun _ o => q6 ?_;refine pk0 (v := pt d 0) o rfl fun _ o => ?_;refine pk0 (v := pt d 0) o rfl fun _ o => ?_;refine pk0 (v := pt d 2) o rfl fun _ o => ?_;have hk19 := hO.blk.below hb13;refine pk (v := pv) o rfl (rn_load1 rfl rfl Tryd.isAgg64 (hk19.cell rfl)) fun _ o => ?_;have hr21 := row_kept_new hO.row (below_grown hb13);refine pk (v := .int .i64 (s.ps.length : Int)) o rfl (rn_lenOwn rfl rfl Tryd.underlying64 hr21) fun _ o => ?_;refine pk0 (v := .int .i64 0) o rfl fun _ o => q1 <| wp_block ?_;have o : Slots 43 [(0, pt d 0), (3, .int .i64 (sumP s.ps)), (14, pv), (15, .int .i64 (s.ps.length : Int)), (16, .int .i64 0)] _ := o.sub ⟨rfl, rfl, rfl, rfl, rfl, trivial⟩;refine co_loop (fun mm a x => ∃ (i : Nat) (g1 : Int → Option FileG) (c1 : Nat), Slots 43 [(0, pt d 0), (3, .int .i64 (sumP s.ps)), (14, pv), (15, .int .i64 (s.ps.length : Int)), (16, .int .i64 (i : Int))] a ∧ mm = s.ps.length - i ∧ (i ≤ s.ps.length) ∧ (c1 ≤ c + i) ∧ (∀ k, (g1 k).map (·.2) = synF s.fm (s.ps.take i) k) ∧ MapO intK fileV x M g1 c1 ∧ x.ownsRow 0 74 2 pv s.ps.length (s.ps.flatMap pieceE) ∧ Fam S w0.heap.size x g1 ∧ But (S) w0 x ∧ Blk x d 66 #[.bool true, .map (some M), pv, .int .i64 s.ser, .int .i64 s.boots]) (s.ps.length - 0) ?_ ?_;have hM25 := hO.map.kept (below_grown hb13) (by simp);have hF26 := hO.fam.new (below_grown hb13);have hB27 := fbU_call hB0 hb13
 · exact ⟨0, g, c, o.sub ⟨rfl, rfl, rfl, rfl, (slot_eq rfl (congrArg (Value.int .i64) (by first | rfl | omega))), trivial⟩, rfl, by omega, by omega, by first | exact hrl' | exact hO.rel, (fun_eq hM25 (by first | rfl | (funext b; rfl)) (by omega)), hr21, hF26, hB27, hk19⟩
 · rintro k28 a29 w30 ⟨i, g1, c1, o, rfl, hi31, hi32, hi33, hf34, hf35, hf36, hB37, hk38⟩
   have hz39 := hB37.size;have hl40 := hk38.lt;have hl41 := hf34.lt;have hrl : ∀ k, (g1 k).map (·.2) = synF s.fm (s.ps.take i) k := by assumption
   refine q2 ?_;refine pk0 (v := .bool (decide ((i : Int) < (s.ps.length : Int)))) o rfl fun _ o => q1 <| co_seq ?_;cases hc43 : (decide ((i : Int) < (s.ps.length : Int)))
   ·
    rw [hc43] at o;have hp44 : ¬ ((i : Int) < (s.ps.length : Int)) := of_decide_eq_false hc43;refine co_false o rfl <| wp_exit <| co_thenX <| co_thenX <| qx <| q2 ?_;refine pk0 (v := pt d 0) o rfl fun _ o => ?_;have hrz : ∀ k, (g1 k).map (·.2) = synF s.fm s.ps k := by have := hrl; rwa [List.take_of_length_le (by omega)] at this
    refine pw o rfl (op_call (args := #[pt d 0]) (R := fun res xw => res = .tuple #[] ∧ ∃ (pv : Value), DkP S w0.heap.size xw d M pv g1 c1 (forS (⟨synF s.fm s.ps, s.ps, s.ser, s.boots⟩ : DkS)) ∧ But (S) w0 xw) rfl rfl rfl (by kernel_rfl) (by kernel_rfl) (Tryd.call36 _ _) (dforget_any w0 S d M pv g1 c1 (⟨synF s.fm s.ps, s.ps, s.ser, s.boots⟩ : DkS) w30 hB37 ⟨hk38, hf34, hf35, hf36, hO.sd, hO.sM, hO.sp, hrz⟩) (by rintro e x ⟨pv, rfl, h1, h2⟩; exact ⟨_, rfl, rfl, pv, h1, h2⟩)) ?_;rintro _ w47 a46 ⟨rfl, pv50, hO48, hB49⟩ o;have hz51 := hB49.size;have hl52 := hO48.blk.lt;have hl53 := hO48.map.lt;have hne54 := blk_ne_map hO48.blk hO48.map;have hl55 := sl_len (row_sl hO48.row pieceE_len);refine q3 ?_;refine pk0 (v := .int .i64 (sumP s.ps)) o rfl fun _ o => ?_;refine pk0 (v := .int .i64 (sumP s.ps)) o rfl fun _ o => q4 ?_;refine co_ret1 o rfl rfl ?_;exact ⟨_, _, _, rfl, hO48, by omega, hB49⟩
   rw [hc43] at o;have hp58 : (i : Int) < (s.ps.length : Int) := of_decide_eq_true hc43;refine co_true o rfl <| q0 <| co_seq <| wp_block <| q2 ?_;obtain ⟨y59, hy59⟩ : ∃ z, s.ps[i]? = some z := ⟨_, List.getElem?_eq_getElem (by first | omega | (simp; done) | (simp; omega))⟩;refine pk (v := pt (blkOf pv) (offOf pv + i * 2)) o rfl (rn_index rfl rfl rfl Tryd.underlying64 Tryd.sizeOf74 (row_sl hf35 pieceE_len) (by omega) (by first | omega | (simp; done) | (simp; omega))) fun _ o => ?_;refine pk (v := .agg #[.int .i64 y59.1, .int .i64 y59.2]) o rfl (rn_loadN rfl rfl Tryd.underlying74 rfl (by kernel_rfl) (sl_at (row_sl hf35 pieceE_len) hy59)) fun _ o => ?_;refine pw o rfl (op_new (v := fun N => pt N 0) (T := 74) (cs := #[.int .i64 0, .int .i64 0]) (by kernel_rfl) (by kernel_rfl) (by kernel_rfl)) ?_;rintro _ w63 a62 ⟨N64, rfl, hN67, hz68, hk66, hg65⟩ o;have ha69 := row_fresh hf35 hN67;have hu70 := row_under hf35 hN67;have hz71 := hg65.size
   try dsimp only at o
   refine pwD o rfl (op_storeN rfl rfl rfl (by kernel_rfl) (by kernel_rfl) hk66 rfl) ?_;rintro _ w73 a72 ⟨hk74, hz75, hg76⟩ o;have hk74' : Blk w73 N64 74 #[.int .i64 y59.1, .int .i64 y59.2] := hk74;have hz77 := hg76.size;refine q1 <| co_seq ?_;refine dr_gen (fun x => But (S) w0 x ∧ Blk x d 66 #[.bool true, .map (some M), pv, .int .i64 s.ser, .int .i64 s.boots] ∧ Blk x N64 74 #[.int .i64 y59.1, .int .i64 y59.2]) (by kernel_rfl) (fun w78 hg79 => ?_) (fun w78 hg79 => ?_)
   ·
    have hz80 := hg79.size;have hB81 := fbU_new hB37 hg65;have hB82 := fbU_at hB81 hg76 (fun hlt => absurd hlt (by omega));have hB83 := fbU_new hB82 hg79;have hk84 := hk38.kept hg65 (by simp);have hk85 := hk84.kept hg76 (by simp; omega);have hk86 := hk85.kept hg79 (by simp);have hk87 := hk74'.kept hg79 (by simp);exact ⟨hB83, hk86, hk87⟩
   have hz88 := hg79.size;have hB89 := fbU_new hB37 hg65;have hB90 := fbU_at hB89 hg76 (fun hlt => absurd hlt (by omega));have hB91 := fbU_new hB90 hg79;have hk92 := hk38.kept hg65 (by simp);have hk93 := hk92.kept hg76 (by simp; omega);have hk94 := hk93.kept hg79 (by simp);have hk95 := hk74'.kept hg79 (by simp);refine dk0 0 (v := pt d 0) o rfl rfl ⟨hB91, hk94, hk95⟩ fun _ o => ?_;refine dk0 1 (v := pt d 0) o rfl rfl ⟨hB91, hk94, hk95⟩ fun _ o => ?_;refine dk0 2 (v := pt d 1) o rfl rfl ⟨hB91, hk94, hk95⟩ fun _ o => ?_;refine dk 3 (v := .map (some M)) o rfl rfl ⟨hB91, hk94, hk95⟩ (fun x hx => (rn_load1 rfl rfl Tryd.isAgg63 (hx.2.1.cell rfl))) fun _ o => ?_;refine dk0 4 (v := pt N64 0) o rfl rfl ⟨hB91, hk94, hk95⟩ fun _ o => ?_;refine dk 5 (v := .int .i64 y59.1) o rfl rfl ⟨hB91, hk94, hk95⟩ (fun x hx => (rn_load1 rfl rfl Tryd.isAgg3 (hx.2.2.cell rfl))) fun _ o => ?_;refine dr_many [6, 7] (by kernel_rfl) (by simp) ⟨?_, ?_, trivial⟩
   ·
    have hF105 := hf36.new hg65;have hF106 := hF105.blk hk66 (by decide) hg76;have hF107 := hF106.new hg79;have hM112 := hf34.kept hg65 (by simp);have hM113 := hM112.kept hg76 (by simp; omega);have hM114 := hM113.kept hg79 (by simp);obtain ⟨f102, hf103⟩ : ∃ z, (g1 y59.1).getD fz = z := ⟨_, rfl⟩;have hA104 := hF107.at hf103;have hl108 := sl_len (row_sl hA104.1 u8E_len);have hgf109 := getF_eq hrl hf103;have hgl110 : f102.2.1.length = (getF (synF s.fm (s.ps.take i)) y59.1).1.length := by rw [hgf109]
    have hgs111 : f102.2.2.1 = (getF (synF s.fm (s.ps.take i)) y59.1).2.1 := by rw [hgf109]
    refine dr_opVal (i := 6) (v := .agg #[f102.1, .int .i64 f102.2.2.1, .bool f102.2.2.2]) o rfl rfl rfl rfl (by kernel_rfl) rfl (rn_lookO (a := y59.1) (f := f102) (intKL Tryd.underlying3) rfl rfl rfl Tryd.underlying63 filez hM114 hf103) ⟨hB91, hk94, hk95⟩ (fun _ o => ?_);refine d1 7 o rfl rfl (op_new (v := fun N => pt N 0) (T := 77) (cs := #[.slice none 0 0, .int .i64 0, .bool false]) (by kernel_rfl) (by kernel_rfl) (by kernel_rfl)) ?_ ?_
    ·
     rintro _ w117 ⟨N118, rfl, hN121, hz122, hk120, hg119⟩;have hr124 := row_kept_new hf35 hg65;have hr125 := row_kept_at hr124 hg76 (ha69);have hr126 := row_kept_new hr125 hg79;have ha123 := row_fresh hr126 hN121;have hu127 := row_under hr126 hN121;have ha128 := row_fresh hA104.1 hN121;have hu129 := row_under hA104.1 hN121;have hz130 := hg119.size;have hB131 := fbU_new hB91 hg119;have hk132 := hk94.kept hg119 (by simp);have hk133 := hk95.kept hg119 (by simp);exact ⟨hB131, hk132, hk133⟩
    rintro _ w117 a116 ⟨N118, rfl, hN121, hz122, hk120, hg119⟩ o;have hr124 := row_kept_new hf35 hg65;have hr125 := row_kept_at hr124 hg76 (ha69);have hr126 := row_kept_new hr125 hg79;have ha123 := row_fresh hr126 hN121;have hu127 := row_under hr126 hN121;have ha128 := row_fresh hA104.1 hN121;have hu129 := row_under hA104.1 hN121;have hz130 := hg119.size
    try dsimp only at o
    have hB131 := fbU_new hB91 hg119;have hk132 := hk94.kept hg119 (by simp);have hk133 := hk95.kept hg119 (by simp);have hr139 := row_kept_new hA104.1 hg119;refine d1D 8 o rfl rfl (op_storeN rfl rfl rfl (all_cons (row_one hr139) (all_cons rfl (all_cons rfl all_nil))) (by kernel_rfl) hk120 rfl) ?_ ?_
    ·
     rintro _ w135 ⟨hk136, hz137, hg138⟩;have hk136' : Blk w135 N118 77 #[f102.1, .int .i64 f102.2.2.1, .bool f102.2.2.2] := hk136;have hz140 := hg138.size;have hB141 := fbU_at hB131 hg138 (fun hlt => absurd hlt (by omega));have hk142 := hk132.kept hg138 (by simp; omega);have hk143 := hk133.kept hg138 (by simp; omega);exact ⟨hB141, hk142, hk143⟩
    rintro _ w135 a134 ⟨hk136, hz137, hg138⟩ o;have hk136' : Blk w135 N118 77 #[f102.1, .int .i64 f102.2.2.1, .bool f102.2.2.2] := hk136;have hz140 := hg138.size;refine dr_done (by kernel_rfl) ?_;refine co_then <| q2 ?_;refine pk0 (v := pt N118 0) o rfl fun _ o => ?_;refine pk (v := f102.1) o rfl (rn_load1 rfl rfl Tryd.isAgg75 (hk136'.cell rfl)) fun _ o => ?_;have hr143 := row_kept_at hr139 hg138 (ha128);refine pk (v := .int .i64 (f102.2.1.length : Int)) o rfl (rn_lenOwn rfl rfl Tryd.underlying75 hr143) fun _ o => ?_;refine pk0 (v := pt N118 1) o rfl fun _ o => ?_;refine pwD o rfl (op_store1 rfl rfl rfl rfl Tryd.sizeOf3 hk136' rfl) ?_;rintro _ w147 a146 ⟨hk148, hz149, hg150⟩ o;have hk148' : Blk w147 N118 77 #[f102.1, .int .i64 (f102.2.1.length : Int), .bool f102.2.2.2] := hk148;have hz151 := hg150.size;refine pk0 (v := pt N118 2) o rfl fun _ o => ?_;refine pwD o rfl (op_store1 rfl rfl rfl rfl Tryd.sizeOf4 hk148' rfl) ?_;rintro _ w154 a153 ⟨hk155, hz156, hg157⟩ o;have hk155' : Blk w154 N118 77 #[f102.1, .int .i64 (f102.2.1.length : Int), .bool true] := hk155;have hz158 := hg157.size;refine q1 ?_;refine dr_gen (fun x => But (S) w0 x ∧ Blk x d 66 #[.bool true, .map (some M), pv, .int .i64 s.ser, .int .i64 s.boots] ∧ Blk x N64 74 #[.int .i64 y59.1, .int .i64 y59.2] ∧ Blk x N118 77 #[f102.1, .int .i64 (f102.2.1.length : Int), .bool true]) (by kernel_rfl) (fun w159 hg160 => ?_) (fun w159 hg160 => ?_)
    ·
     have hz161 := hg160.size;have hB162 := fbU_at hB131 hg138 (fun hlt => absurd hlt (by omega));have hB163 := fbU_at hB162 hg150 (fun hlt => absurd hlt (by omega));have hB164 := fbU_at hB163 hg157 (fun hlt => absurd hlt (by omega));have hB165 := fbU_new hB164 hg160;have hk166 := hk132.kept hg138 (by simp; omega);have hk167 := hk166.kept hg150 (by simp; omega);have hk168 := hk167.kept hg157 (by simp; omega);have hk169 := hk168.kept hg160 (by simp);have hk170 := hk133.kept hg138 (by simp; omega);have hk171 := hk170.kept hg150 (by simp; omega);have hk172 := hk171.kept hg157 (by simp; omega);have hk173 := hk172.kept hg160 (by simp);have hk174 := hk155'.kept hg160 (by simp);exact ⟨hB165, hk169, hk173, hk174⟩
    have hz175 := hg160.size;have hB176 := fbU_at hB131 hg138 (fun hlt => absurd hlt (by omega));have hB177 := fbU_at hB176 hg150 (fun hlt => absurd hlt (by omega));have hB178 := fbU_at hB177 hg157 (fun hlt => absurd hlt (by omega));have hB179 := fbU_new hB178 hg160;have hk180 := hk132.kept hg138 (by simp; omega);have hk181 := hk180.kept hg150 (by simp; omega);have hk182 := hk181.kept hg157 (by simp; omega);have hk183 := hk182.kept hg160 (by simp);have hk184 := hk133.kept hg138 (by simp; omega);have hk185 := hk184.kept hg150 (by simp; omega);have hk186 := hk185.kept hg157 (by simp; omega);have hk187 := hk186.kept hg160 (by simp);have hk188 := hk155'.kept hg160 (by simp);refine dk0 0 (v := pt d 0) o rfl rfl ⟨hB179, hk183, hk187, hk188⟩ fun _ o => ?_;refine dk0 1 (v := pt d 0) o rfl rfl ⟨hB179, hk183, hk187, hk188⟩ fun _ o => ?_;refine dk0 2 (v := pt d 1) o rfl rfl ⟨hB179, hk183, hk187, hk188⟩ fun _ o => ?_;refine dk 3 (v := .map (some M)) o rfl rfl ⟨hB179, hk183, hk187, hk188⟩ (fun x hx => (rn_load1 rfl rfl Tryd.isAgg63 (hx.2.1.cell rfl))) fun _ o => ?_;refine dk0 4 (v := pt N64 0) o rfl rfl ⟨hB179, hk183, hk187, hk188⟩ fun _ o => ?_;refine dk 5 (v := .int .i64 y59.1) o rfl rfl ⟨hB179, hk183, hk187, hk188⟩ (fun x hx => (rn_load1 rfl rfl Tryd.isAgg3 (hx.2.2.1.cell rfl))) fun _ o => ?_;refine dk 6 (v := .agg #[f102.1, .int .i64 (f102.2.1.length : Int), .bool true]) o rfl rfl ⟨hB179, hk183, hk187, hk188⟩ (fun x hx => (rn_loadN rfl rfl Tryd.underlying77 rfl (by kernel_rfl) hx.2.2.2.all)) fun _ o => ?_;have hM201 := hM114.kept hg119 (by simp);have hM202 := hM201.kept hg138 (by simp; omega);have hM203 := hM202.kept hg150 (by simp; omega);have hM204 := hM203.kept hg157 (by simp; omega);have hM205 := hM204.kept hg160 (by simp);refine d1D 7 o rfl rfl (op_updateO (a := y59.1) (v := (f102.1, f102.2.1, (f102.2.1.length : Int), true)) (intKL Tryd.underlying3) rfl rfl rfl rfl Tryd.underlying63 hM205) ?_ ?_
    ·
     rintro _ w197 ⟨hm198, hz199, hg200⟩;have hF207 := hF107.new hg119;have hF208 := hF207.blk hk120 (by decide) hg138;have hF209 := hF208.blk hk136' (by decide) hg150;have hF210 := hF209.blk hk148' (by decide) hg157;have hF211 := hF210.new hg160;have hr212 := row_kept_at hr143 hg150 (ha128);have hr213 := row_kept_at hr212 hg157 (ha128);have hr214 := row_kept_new hr213 hg160;have hF206 := Fam.put (u := (f102.1)) (l := f102.2.1) (sf := (f102.2.1.length : Int)) (b0 := true) hF211 hf103 hr214 rfl;have hz215 := hg200.size;have hl216 := hm198.lt;have hB217 := fbU_at hB179 hg200 (fun hlt => by rcases hO.sM with hq | hq; exact hq; omega);have hk218 := hk183.kept hg200 (by simp; omega);have hk219 := hk187.kept hg200 (by simp; omega);have hk220 := hk188.kept hg200 (by simp; omega);exact ⟨hB217, hk218, hk219, hk220⟩
    rintro _ w197 a196 ⟨hm198, hz199, hg200⟩ o;have hF207 := hF107.new hg119;have hF208 := hF207.blk hk120 (by decide) hg138;have hF209 := hF208.blk hk136' (by decide) hg150;have hF210 := hF209.blk hk148' (by decide) hg157;have hF211 := hF210.new hg160;have hr212 := row_kept_at hr143 hg150 (ha128);have hr213 := row_kept_at hr212 hg157 (ha128);have hr214 := row_kept_new hr213 hg160;have hF206 := Fam.put (u := (f102.1)) (l := f102.2.1) (sf := (f102.2.1.length : Int)) (b0 := true) hF211 hf103 hr214 rfl;have hz215 := hg200.size;have hl216 := hm198.lt;refine dr_done (by kernel_rfl) ?_;refine co_blockN <| co_then <| co_reg ?_;refine pk (v := .int .i64 ((i + 1 : Nat) : Int)) o rfl (rn_arith' rfl rfl rfl rfl rfl rfl (IntWalk.i64_in _ (by omega)) (by omega)) fun _ o => ?_;refine pk0 (v := .int .i64 ((i + 1 : Nat) : Int)) o rfl fun _ o => q1 ?_;refine ⟨(s.ps.length - (i + 1)), by omega, ?_⟩;have hrl' : ∀ k, ((fun b => if b = y59.1 then some (f102.1, f102.2.1, (f102.2.1.length : Int), true) else g1 b) k).map (·.2) = synF s.fm (s.ps.take (i + 1)) k := by rw [synF_at hy59, ← hgf109]; exact putF_eq hrl
    have hr219 := row_kept_new hr126 hg119;have hr220 := row_kept_at hr219 hg138 (ha123);have hr221 := row_kept_at hr220 hg150 (ha123);have hr222 := row_kept_at hr221 hg157 (ha123);have hr223 := row_kept_new hr222 hg160;have hr224 := row_kept_at hr223 hg200 (hM205.row hr223);have hF225 := hF206.map hM205 hg200;have hB226 := fbU_at hB179 hg200 (fun hlt => by rcases hO.sM with hq | hq; exact hq; omega);have hk227 := hk183.kept hg200 (by simp; omega);exact ⟨i + 1, (fun b => if b = y59.1 then some (f102.1, f102.2.1, (f102.2.1.length : Int), true) else g1 b), c1 + 1, o.sub ⟨rfl, rfl, rfl, rfl, rfl, trivial⟩, rfl, by omega, by omega, by first | exact hrl' | exact hO.rel, (fun_eq hm198 (by first | rfl | (funext b; rfl)) (by omega)), hr224, hF225, hB226, hk227⟩
   refine dr_op (i := 7) o rfl rfl rfl rfl (op_new (v := fun N => pt N 0) (T := 77) (cs := #[.slice none 0 0, .int .i64 0, .bool false]) (by kernel_rfl) (by kernel_rfl) (by kernel_rfl)) ?_ ?_
   ·
    rintro _ w229 ⟨N230, rfl, hN233, hz234, hk232, hg231⟩;have hr236 := row_kept_new hf35 hg65;have hr237 := row_kept_at hr236 hg76 (ha69);have hr238 := row_kept_new hr237 hg79;have ha235 := row_fresh hr238 hN233;have hu239 := row_under hr238 hN233;have hz240 := hg231.size;have hB241 := fbU_new hB91 hg231;have hk242 := hk94.kept hg231 (by simp);have hk243 := hk95.kept hg231 (by simp);exact ⟨hB241, hk242, hk243⟩
   rintro _ w229 a228 ⟨N230, rfl, hN233, hz234, hk232, hg231⟩ o;have hr236 := row_kept_new hf35 hg65;have hr237 := row_kept_at hr236 hg76 (ha69);have hr238 := row_kept_new hr237 hg79;have ha235 := row_fresh hr238 hN233;have hu239 := row_under hr238 hN233;have hz240 := hg231.size
   try dsimp only at o
   have hB241 := fbU_new hB91 hg231;have hk242 := hk94.kept hg231 (by simp);have hk243 := hk95.kept hg231 (by simp);refine dr_many [6] (by kernel_rfl) (by simp) ⟨?_, trivial⟩;have hF247 := hf36.new hg65;have hF248 := hF247.blk hk66 (by decide) hg76;have hF249 := hF248.new hg79;have hF250 := hF249.new hg231;have hM255 := hf34.kept hg65 (by simp);have hM256 := hM255.kept hg76 (by simp; omega);have hM257 := hM256.kept hg79 (by simp);have hM258 := hM257.kept hg231 (by simp);obtain ⟨f244, hf245⟩ : ∃ z, (g1 y59.1).getD fz = z := ⟨_, rfl⟩;have hA246 := hF250.at hf245;have hl251 := sl_len (row_sl hA246.1 u8E_len);have hgf252 := getF_eq hrl hf245;have hgl253 : f244.2.1.length = (getF (synF s.fm (s.ps.take i)) y59.1).1.length := by rw [hgf252]
   have hgs254 : f244.2.2.1 = (getF (synF s.fm (s.ps.take i)) y59.1).2.1 := by rw [hgf252]
   refine dr_opVal (i := 6) (v := .agg #[f244.1, .int .i64 f244.2.2.1, .bool f244.2.2.2]) o rfl rfl rfl rfl (by kernel_rfl) rfl (rn_lookO (a := y59.1) (f := f244) (intKL Tryd.underlying3) rfl rfl rfl Tryd.underlying63 filez hM258 hf245) ⟨hB241, hk242, hk243⟩ (fun _ o => ?_);refine d1D 8 o rfl rfl (op_storeN rfl rfl rfl (all_cons (row_one hA246.1) (all_cons rfl (all_cons rfl all_nil))) (by kernel_rfl) hk232 rfl) ?_ ?_
   ·
    rintro _ w261 ⟨hk262, hz263, hg264⟩;have hk262' : Blk w261 N230 77 #[f244.1, .int .i64 f244.2.2.1, .bool f244.2.2.2] := hk262;have hz265 := hg264.size;have hB266 := fbU_at hB241 hg264 (fun hlt => absurd hlt (by omega));have hk267 := hk242.kept hg264 (by simp; omega);have hk268 := hk243.kept hg264 (by simp; omega);exact ⟨hB266, hk267, hk268⟩
   rintro _ w261 a260 ⟨hk262, hz263, hg264⟩ o;have hk262' : Blk w261 N230 77 #[f244.1, .int .i64 f244.2.2.1, .bool f244.2.2.2] := hk262;have hz265 := hg264.size;refine dr_done (by kernel_rfl) ?_;refine co_then <| q2 ?_;refine pk0 (v := pt N230 0) o rfl fun _ o => ?_;refine pk (v := f244.1) o rfl (rn_load1 rfl rfl Tryd.isAgg75 (hk262'.cell rfl)) fun _ o => ?_;have hr268 := row_kept_at hA246.1 hg264 (own_neT hA246.1 hk232 (by decide));refine pk (v := .int .i64 (f244.2.1.length : Int)) o rfl (rn_lenOwn rfl rfl Tryd.underlying75 hr268) fun _ o => ?_;refine pk0 (v := pt N230 1) o rfl fun _ o => ?_;refine pwD o rfl (op_store1 rfl rfl rfl rfl Tryd.sizeOf3 hk262' rfl) ?_;rintro _ w272 a271 ⟨hk273, hz274, hg275⟩ o;have hk273' : Blk w272 N230 77 #[f244.1, .int .i64 (f244.2.1.length : Int), .bool f244.2.2.2] := hk273;have hz276 := hg275.size;refine pk0 (v := pt N230 2) o rfl fun _ o => ?_;refine pwD o rfl (op_store1 rfl rfl rfl rfl Tryd.sizeOf4 hk273' rfl) ?_;rintro _ w279 a278 ⟨hk280, hz281, hg282⟩ o;have hk280' : Blk w279 N230 77 #[f244.1, .int .i64 (f244.2.1.length : Int), .bool true] := hk280;have hz283 := hg282.size;refine q1 ?_;refine dr_gen (fun x => But (S) w0 x ∧ Blk x d 66 #[.bool true, .map (some M), pv, .int .i64 s.ser, .int .i64 s.boots] ∧ Blk x N64 74 #[.int .i64 y59.1, .int .i64 y59.2] ∧ Blk x N230 77 #[f244.1, .int .i64 (f244.2.1.length : Int), .bool true]) (by kernel_rfl) (fun w284 hg285 => ?_) (fun w284 hg285 => ?_)
   ·
    have hz286 := hg285.size;have hB287 := fbU_at hB241 hg264 (fun hlt => absurd hlt (by omega));have hB288 := fbU_at hB287 hg275 (fun hlt => absurd hlt (by omega));have hB289 := fbU_at hB288 hg282 (fun hlt => absurd hlt (by omega));have hB290 := fbU_new hB289 hg285;have hk291 := hk242.kept hg264 (by simp; omega);have hk292 := hk291.kept hg275 (by simp; omega);have hk293 := hk292.kept hg282 (by simp; omega);have hk294 := hk293.kept hg285 (by simp);have hk295 := hk243.kept hg264 (by simp; omega);have hk296 := hk295.kept hg275 (by simp; omega);have hk297 := hk296.kept hg282 (by simp; omega);have hk298 := hk297.kept hg285 (by simp);have hk299 := hk280'.kept hg285 (by simp);exact ⟨hB290, hk294, hk298, hk299⟩
   have hz300 := hg285.size;have hB301 := fbU_at hB241 hg264 (fun hlt => absurd hlt (by omega));have hB302 := fbU_at hB301 hg275 (fun hlt => absurd hlt (by omega));have hB303 := fbU_at hB302 hg282 (fun hlt => absurd hlt (by omega));have hB304 := fbU_new hB303 hg285;have hk305 := hk242.kept hg264 (by simp; omega);have hk306 := hk305.kept hg275 (by simp; omega);have hk307 := hk306.kept hg282 (by simp; omega);have hk308 := hk307.kept hg285 (by simp);have hk309 := hk243.kept hg264 (by simp; omega);have hk310 := hk309.kept hg275 (by simp; omega);have hk311 := hk310.kept hg282 (by simp; omega);have hk312 := hk311.kept hg285 (by simp);have hk313 := hk280'.kept hg285 (by simp);refine dk0 0 (v := pt d 0) o rfl rfl ⟨hB304, hk308, hk312, hk313⟩ fun _ o => ?_;refine dk0 1 (v := pt d 0) o rfl rfl ⟨hB304, hk308, hk312, hk313⟩ fun _ o => ?_;refine dk0 2 (v := pt d 1) o rfl rfl ⟨hB304, hk308, hk312, hk313⟩ fun _ o => ?_;refine dk 3 (v := .map (some M)) o rfl rfl ⟨hB304, hk308, hk312, hk313⟩ (fun x hx => (rn_load1 rfl rfl Tryd.isAgg63 (hx.2.1.cell rfl))) fun _ o => ?_;refine dk0 4 (v := pt N64 0) o rfl rfl ⟨hB304, hk308, hk312, hk313⟩ fun _ o => ?_;refine dk 5 (v := .int .i64 y59.1) o rfl rfl ⟨hB304, hk308, hk312, hk313⟩ (fun x hx => (rn_load1 rfl rfl Tryd.isAgg3 (hx.2.2.1.cell rfl))) fun _ o => ?_;refine dk 6 (v := .agg #[f244.1, .int .i64 (f244.2.1.length : Int), .bool true]) o rfl rfl ⟨hB304, hk308, hk312, hk313⟩ (fun x hx => (rn_loadN rfl rfl Tryd.underlying77 rfl (by kernel_rfl) hx.2.2.2.all)) fun _ o => ?_;have hM326 := hM258.kept hg264 (by simp; omega);have hM327 := hM326.kept hg275 (by simp; omega);have hM328 := hM327.kept hg282 (by simp; omega);have hM329 := hM328.kept hg285 (by simp);refine d1D 7 o rfl rfl (op_updateO (a := y59.1) (v := (f244.1, f244.2.1, (f244.2.1.length : Int), true)) (intKL Tryd.underlying3) rfl rfl rfl rfl Tryd.underlying63 hM329) ?_ ?_
   ·
    rintro _ w322 ⟨hm323, hz324, hg325⟩;have hF331 := hF250.blk hk232 (by decide) hg264;have hF332 := hF331.blk hk262' (by decide) hg275;have hF333 := hF332.blk hk273' (by decide) hg282;have hF334 := hF333.new hg285;have hr335 := row_kept_at hr268 hg275 (own_neT hr268 hk262' (by decide));have hr336 := row_kept_at hr335 hg282 (own_neT hr335 hk273' (by decide));have hr337 := row_kept_new hr336 hg285;have hF330 := Fam.put (u := (f244.1)) (l := f244.2.1) (sf := (f244.2.1.length : Int)) (b0 := true) hF334 hf245 hr337 rfl;have hz338 := hg325.size;have hl339 := hm323.lt;have hB340 := fbU_at hB304 hg325 (fun hlt => by rcases hO.sM with hq | hq; exact hq; omega);have hk341 := hk308.kept hg325 (by simp; omega);have hk342 := hk312.kept hg325 (by simp; omega);have hk343 := hk313.kept hg325 (by simp; omega);exact ⟨hB340, hk341, hk342, hk343⟩
   rintro _ w322 a321 ⟨hm323, hz324, hg325⟩ o;have hF331 := hF250.blk hk232 (by decide) hg264;have hF332 := hF331.blk hk262' (by decide) hg275;have hF333 := hF332.blk hk273' (by decide) hg282;have hF334 := hF333.new hg285;have hr335 := row_kept_at hr268 hg275 (own_neT hr268 hk262' (by decide));have hr336 := row_kept_at hr335 hg282 (own_neT hr335 hk273' (by decide));have hr337 := row_kept_new hr336 hg285;have hF330 := Fam.put (u := (f244.1)) (l := f244.2.1) (sf := (f244.2.1.length : Int)) (b0 := true) hF334 hf245 hr337 rfl;have hz338 := hg325.size;have hl339 := hm323.lt;refine dr_done (by kernel_rfl) ?_;refine co_blockN <| co_then <| co_reg ?_;refine pk (v := .int .i64 ((i + 1 : Nat) : Int)) o rfl (rn_arith' rfl rfl rfl rfl rfl rfl (IntWalk.i64_in _ (by omega)) (by omega)) fun _ o => ?_;refine pk0 (v := .int .i64 ((i + 1 : Nat) : Int)) o rfl fun _ o => q1 ?_;refine ⟨(s.ps.length - (i + 1)), by omega, ?_⟩;have hrl' : ∀ k, ((fun b => if b = y59.1 then some (f244.1, f244.2.1, (f244.2.1.length : Int), true) else g1 b) k).map (·.2) = synF s.fm (s.ps.take (i + 1)) k := by rw [synF_at hy59, ← hgf252]; exact putF_eq hrl
   have hr342 := row_kept_new hr238 hg231;have hr343 := row_kept_at hr342 hg264 (ha235);have hr344 := row_kept_at hr343 hg275 (ha235);have hr345 := row_kept_at hr344 hg282 (ha235);have hr346 := row_kept_new hr345 hg285;have hr347 := row_kept_at hr346 hg325 (hM329.row hr346);have hF348 := hF330.map hM329 hg325;have hB349 := fbU_at hB304 hg325 (fun hlt => by rcases hO.sM with hq | hq; exact hq; omega);have hk350 := hk308.kept hg325 (by simp; omega);exact ⟨i + 1, (fun b => if b = y59.1 then some (f244.1, f244.2.1, (f244.2.1.length : Int), true) else g1 b), c1 + 1, o.sub ⟨rfl, rfl, rfl, rfl, rfl, trivial⟩, rfl, by omega, by omega, by first | exact hrl' | exact hO.rel, (fun_eq hm323 (by first | rfl | (funext b; rfl)) (by omega)), hr347, hF348, hB349, hk350⟩
set_option maxRecDepth 100000 in
theorem dData_any (w0 : World) (S : Nat → Prop) (d : Nat) (M : Nat) (pv : Value) (g : Int → Option FileG) (c : Nat) (s : DkS) (number : Int) (w : World) (hbw : But S w0 w) (hO : DkP S w0.heap.size w d M pv g c s) :
    Calls Tryd.prog 27 #[pt d 0, .int .i64 number] w fun e w' => e = .returned (.string (datF s.fm number)) ∧ DkP S w0.heap.size w' d M pv g c s ∧ But (S) w0 w' := by
 have hB0 := hbw;have hz0 := hbw.size;have hz0 := hbw.size;have hl1 := hO.blk.lt;have hl2 := hO.map.lt;have hne3 := blk_ne_map hO.blk hO.map;have hl4 := sl_len (row_sl hO.row pieceE_len);refine co_enter (n := 15) Tryd.func27 rfl rfl rfl [(0, pt d 0), (1, .int .i64 number)] rfl (fun a o => ?_);refine q2 ?_;refine pk0 (v := .string (⟨#[]⟩)) o rfl fun _ o => q6 ?_;refine pk0 (v := pt d 0) o rfl fun _ o => ?_;refine pw o rfl (op_call (args := #[pt d 0]) (R := fun res xw => res = .bool false ∧ w = xw) rfl rfl rfl (by kernel_rfl) (by kernel_rfl) (Tryd.call34 _ _) (dzero_any d M pv s.ser s.boots w hO.blk) (by rintro e x ⟨rfl, rfl⟩; exact ⟨_, rfl, ⟨rfl, rfl⟩⟩)) ?_;rintro _ _ a7 ⟨rfl, rfl⟩ o;refine q1 ?_;refine co_false o rfl <| q7 ?_;refine pk0 (v := pt d 0) o rfl fun _ o => ?_;refine pk0 (v := pt d 0) o rfl fun _ o => ?_;refine pk0 (v := pt d 1) o rfl fun _ o => ?_;refine pk (v := .map (some M)) o rfl (rn_load1 rfl rfl Tryd.isAgg63 (hO.blk.cell rfl)) fun _ o => ?_;refine pk0 (v := .int .i64 number) o rfl fun _ o => ?_;obtain ⟨f15, hf16⟩ : ∃ z, (g number).getD fz = z := ⟨_, rfl⟩;have hA17 := hO.fam.at hf16;have hl18 := sl_len (row_sl hA17.1 u8E_len);have hgf19 := getF_eq hO.rel hf16;have hgl20 : f15.2.1.length = (getF s.fm number).1.length := by rw [hgf19]
 have hgs21 : f15.2.2.1 = (getF s.fm number).2.1 := by rw [hgf19]
 refine pk (v := .agg #[f15.1, .int .i64 f15.2.2.1, .bool f15.2.2.2]) o rfl (rn_lookO (a := number) (f := f15) (intKL Tryd.underlying3) rfl rfl rfl Tryd.underlying63 filez hO.map hf16) fun _ o => ?_;refine pk0 (v := f15.1) o rfl fun _ o => ?_;refine pk (v := .string (⟨f15.2.1.toArray⟩)) o rfl (rn_convOwn rfl rfl Tryd.underlying75 Tryd.underlying5 Tryd.underlying9 hA17.1) fun _ o => ?_;refine pk0 (v := .string (⟨f15.2.1.toArray⟩)) o rfl fun _ o => q4 ?_;refine co_ret1 o rfl rfl ?_;exact ⟨by unfold datF; rw [← hgf19], ⟨hO.blk, hO.map, hO.row, hO.fam, hO.sd, hO.sM, hO.sp, hO.rel⟩, hB0⟩
end Go.Proofs.YtfiplhnplmadmaaDoor

/- Package disk: Files, Crash. Conditions: at most 10^6 entries. -/
namespace Go.Proofs.YtfiplhnplmadmaaDoor
open Go.RowKit Go.PlainAid
set_option linter.unusedVariables false


theorem row_nnD {w : World} {B : Nat} {T : TypeId} {sz : Nat} {v : Value} {k : Nat} {xs : List Value} (h : w.ownsRow B T sz v k xs) (hk : 0 < k) : v ≠ .slice none 0 0 := by
  rintro rfl
  rcases h.2 with ⟨_, h1⟩ | ⟨g, cap, cur, h1, _⟩
  · have h0 := h.1; omega
  · simp at h1
section
variable {X : Int × Bool × (Int → Option FileM)} {y : PcT} {kp : Int}
end
set_option maxRecDepth 100000 in
theorem dFiles_any (w0 : World) (S : Nat → Prop) (d : Nat) (M : Nat) (pv : Value) (g : Int → Option FileG) (c : Nat) (s : DkS) (w : World) (hbw : But S w0 w) (hO : DkP S w0.heap.size w d M pv g c s) (hc : c ≤ 1000000) :
    Calls Tryd.prog 26 #[pt d 0] w fun e w' => ∃ (ys : List Int) (u : Value), e = .returned (u) ∧ w'.ownsRow w.heap.size 3 1 u ys.length (ys.flatMap (intE .i64)) ∧ KeysF s.fm ys ∧ ys.length ≤ c ∧ DkP S w0.heap.size w' d M pv g c s ∧ But (S) w0 w' := by
 have hB0 := hbw;have hz0 := hbw.size;have hz0 := hbw.size;have hl1 := hO.blk.lt;have hl2 := hO.map.lt;have hne3 := blk_ne_map hO.blk hO.map;have hl4 := sl_len (row_sl hO.row pieceE_len);refine co_enter (n := 29) Tryd.func26 rfl rfl rfl [(0, pt d 0)] rfl (fun a o => ?_);refine q2 ?_;refine pk0 (v := .slice none 0 0) o rfl fun _ o => q6 ?_;refine pk0 (v := pt d 0) o rfl fun _ o => ?_;refine pw o rfl (op_call (args := #[pt d 0]) (R := fun res xw => res = .bool false ∧ w = xw) rfl rfl rfl (by kernel_rfl) (by kernel_rfl) (Tryd.call34 _ _) (dzero_any d M pv s.ser s.boots w hO.blk) (by rintro e x ⟨rfl, rfl⟩; exact ⟨_, rfl, ⟨rfl, rfl⟩⟩)) ?_;rintro _ _ a7 ⟨rfl, rfl⟩ o;refine q1 ?_;refine co_false o rfl <| q7 ?_;refine pk0 (v := pt d 0) o rfl fun _ o => ?_;refine pk0 (v := pt d 0) o rfl fun _ o => ?_;refine pk0 (v := pt d 1) o rfl fun _ o => ?_;refine pk (v := .map (some M)) o rfl (rn_load1 rfl rfl Tryd.isAgg63 (hO.blk.cell rfl)) fun _ o => ?_;refine pw o rfl (op_lenO (ts := #[]) rfl rfl Tryd.underlying63 hO.map (by kernel_rfl) rfl) ?_;rintro _ _ a14 ⟨k16, rfl, hk17, rfl⟩ o;refine pw o rfl (op_makeOwn (base := w.heap.size) (enc := (intE .i64)) (k := k16) (by_ := 8) (z := .int .i64 0) (size := 1) rfl rfl rfl Tryd.underlying53 (by kernel_rfl) (by omega) (by unfold maxLen; omega) (Nat.le_refl _)) ?_;rintro _ w19 a18 ⟨N20, rfl, hN21, hr22, hg23⟩ o;have hz24 := hg23.size;refine pk0 (v := .slice (some ⟨N20, 0, none⟩) 0 k16) o rfl fun _ o => q6 ?_;refine pk0 (v := pt d 0) o rfl fun _ o => ?_;refine pk0 (v := pt d 0) o rfl fun _ o => ?_;refine pk0 (v := pt d 1) o rfl fun _ o => ?_;have hk29 := hO.blk.kept hg23 (by simp);refine pk (v := .map (some M)) o rfl (rn_load1 rfl rfl Tryd.isAgg63 (hk29.cell rfl)) fun _ o => ?_;have hM41 := hO.map.kept hg23 (by simp);refine pw o rfl (op_rangeO (0 : Int) rfl rfl Tryd.underlying63 hM41) ?_;rintro _ w32 a31 ⟨r33, rfl, hN34, hz35, ⟨lt36, hI37, hfu38, hlc39⟩, hg40⟩ o;have hr43 := row_kept_new hO.row hg23;have ha42 := row_fresh hr43 hN34;have ha44 := row_fresh hr22 hN34;have hz45 := hg40.size;have hl46 := hI37.lt;refine q1 <| wp_block ?_;have o : Slots 29 [(0, pt d 0), (3, .slice (some ⟨N20, 0, none⟩) 0 k16), (17, pt r33 0)] _ := o.sub ⟨rfl, rfl, rfl, trivial⟩;refine co_loop (fun mm a x => ∃ (u : Value) (ks : List Int) (ls : List (Int × FileG)), Slots 29 [(0, pt d 0), (3, u), (17, pt r33 0)] a ∧ mm = ls.length ∧ ((ks ++ ls.map (·.1)).Perm (lt36.map (·.1))) ∧ (u ≠ .slice none 0 0) ∧ MapO intK fileV x M g c ∧ Fam S w0.heap.size x g ∧ x.ownsRow 0 74 2 pv s.ps.length (s.ps.flatMap pieceE) ∧ IterO intK fileV x r33 M ls ∧ x.ownsRow w.heap.size 3 1 u ks.length (ks.flatMap (intE .i64)) ∧ But (S) w0 x ∧ Blk x d 66 #[.bool true, .map (some M), pv, .int .i64 s.ser, .int .i64 s.boots]) (lt36.length) ?_ ?_;have hM48 := hM41.kept hg40 (by simp);have hF49 := hO.fam.new hg23;have hF50 := hF49.new hg40;have hr51 := row_kept_new hr43 hg40;have hr52 := row_kept_new hr22 hg40;have hB53 := fbU_new hB0 hg23;have hB54 := fbU_new hB53 hg40;have hk55 := hk29.kept hg40 (by simp)
 · exact ⟨(.slice (some ⟨N20, 0, none⟩) 0 k16), [], lt36, o.sub ⟨rfl, rfl, rfl, trivial⟩, rfl, by first | exact hP' | (rw [List.nil_append]), by first | (simp; done) | exact hnn', (fun_eq hM48 (by first | rfl | (funext b; rfl)) (by omega)), hF50, hr51, hI37, (row_eq hr52 (rfl)), hB54, hk55⟩
 · rintro k56 a57 w58 ⟨u, ks, ls, o, rfl, hi59, hi60, hf61, hf62, hf63, hf64, hf65, hB66, hk67⟩
   have hz68 := hB66.size;have hl69 := hk67.lt;have hl70 := hf61.lt;have hl71 := hf64.lt;have hP : (ks ++ ls.map (·.1)).Perm (lt36.map (·.1)) := by assumption
   have hPl := hP.length_eq; simp only [List.length_append, List.length_map] at hPl;refine q2 ?_;refine pl_want o rfl rfl rfl (op_nextO rfl rfl hf64) ?_;rintro _ w73 a72 (⟨hnil82, rfl, rfl⟩ | ⟨p74, l75, l76, hleft77, rfl, hI78, hen79, hz80, hg81⟩) o
   ·
    refine pk0 (v := .bool false) o rfl fun _ o => q1 <| co_seq ?_;refine co_false o rfl <| wp_exit <| co_thenX <| co_thenX <| qx <| q2 ?_;refine pk0 (v := u) o rfl fun _ o => ?_;refine pw o rfl (op_call (args := #[u]) (R := fun res xw => res = .tuple #[] ∧ xw.ownsRow w.heap.size 3 1 u (srt ks).length ((srt ks).flatMap (intE .i64)) ∧ w58.grownBy xw (Value.ownBlock u)) rfl rfl rfl (by kernel_rfl) (by kernel_rfl) (Tryd.call45 _ _) (sortI_any u ks w.heap.size 3 w58 hf65 (by assumption) (by omega)) (by rintro e x ⟨rfl, h⟩; exact ⟨_, rfl, rfl, h⟩)) ?_;rintro _ w86 a85 ⟨rfl, hr87, hg88⟩ o;have hz89 := hg88.size;have hle90 := srt_len ks;refine q3 ?_;refine pk0 (v := u) o rfl fun _ o => ?_;refine pk0 (v := u) o rfl fun _ o => q4 ?_;refine co_ret1 o rfl rfl ?_;have hk93 := hk67.kept hg88 (own_neT hf65 hk67 (by decide));have hM94 := hf61.kept hg88 (hf61.row hf65);have hr95 := row_kept_row hf63 hf65 hg88 (by decide);have hF96 := hf62.row hf65 (by decide) hg88;have hB97 := fbU_row hB66 (InS.low hf65 (by omega)) hg88;obtain rfl : ls = [] := hnil82;exact ⟨_, _, rfl, (row_lows hr87 (by omega)), keys_of hO.rel hfu38 hP, by rw [srt_len]; simp at hPl; omega, ⟨hk93, hM94, hr95, hF96, hO.sd, hO.sM, hO.sp, hO.rel⟩, hB97⟩
   have hz98 := hg81.size;have hl99 := hI78.lt;have hln100 : ls.length = l75.length + l76.length + 1 := by rw [hleft77]; simp; omega
   have hla101 : (l75 ++ l76).length = l75.length + l76.length := List.length_append;refine pk0 (v := .bool true) o rfl fun _ o => q1 <| co_seq ?_;refine co_true o rfl <| q0 <| wp_block <| q2 ?_;refine pk (v := .tuple #[.int .i64 p74.1, .agg #[p74.2.1, .int .i64 p74.2.2.2.1, .bool p74.2.2.2.2]]) o rfl (rn_entry rfl rfl hen79) fun _ o => ?_;refine pk0 (v := .int .i64 p74.1) o rfl fun _ o => ?_;refine pk0 (v := .int .i64 p74.1) o rfl fun _ o => q1 <| co_reg ?_;refine pk0 (v := u) o rfl fun _ o => ?_;refine pk0 (v := .int .i64 p74.1) o rfl fun _ o => ?_;refine pw o rfl (op_new (v := fun N => .slice (some ⟨N, 0, none⟩) 1 1) (T := 3) (cs := #[.int .i64 p74.1]) (by kernel_rfl) (by kernel_rfl) (by kernel_rfl)) ?_;rintro _ w109 a108 ⟨N110, rfl, hN113, hz114, hk112, hg111⟩ o;have hr116 := row_kept_at hf63 hg81 (ha42);have ha115 := row_fresh hr116 hN113;have hu117 := row_under hr116 hN113;have hr119 := row_kept_at hf65 hg81 ((hf64.row hf65).2);have ha118 := row_fresh hr119 hN113;have hu120 := row_under hr119 hN113;have hz121 := hg111.size
   try dsimp only at o
   have hr128 := row_kept_new hr119 hg111;refine pw o rfl (op_append rfl w.heap.size 3 (z := .int .i64 0) (size := 1) (bytes := 8) Tryd.underlying53 (by kernel_rfl) rfl rfl rfl hr128 rfl hk112 rfl (by kernel_rfl) (by first | omega | (simp only [List.length_nil, List.length_append, List.length_cons, List.length_take, List.length_drop]; omega)) (by first | omega | (simp only [List.length_nil, List.length_append, List.length_cons, List.length_take, List.length_drop]; omega)) (by omega)) ?_;rintro v124 w123 a122 ⟨hr125, hg126⟩ o;have hr125' : w123.ownsRow w.heap.size 3 1 v124 ((ks ++ [p74.1]).length) ((ks ++ [p74.1]).flatMap (intE .i64)) := row_push (y := p74.1) hr125 rfl rfl;have hz129 := hg126.size;refine pk0 (v := v124) o rfl fun _ o => pl_nil <| co_blockN <| co_then ?_;refine ⟨((l75 ++ l76).length), by omega, ?_⟩;have hP' : ((ks ++ [p74.1]) ++ (l75 ++ l76).map (·.1)).Perm (lt36.map (·.1)) := by have hq := perm_snoc hP (L1 := l75.map (·.1)) (L2 := l76.map (·.1)) (p := p74.1) (by rw [hleft77]; simp); simpa using hq
   have hnn' := row_nnD hr125' (by simp);have hM131 := hf61.kept hg81 (by simp; omega);have hM132 := hM131.kept hg111 (by simp);have hM133 := hM132.kept hg126 (hM132.row hr128);have hF134 := hf62.iter hf64 hg81;have hF135 := hF134.new hg111;have hF136 := hF135.row hr128 (by decide) hg126;have hr137 := row_kept_new hr116 hg111;have hr138 := row_kept_row hr137 hr128 hg126 (by decide);have hI139 := hI78.kept hg111 (by simp) (by simp);have hI140 := hI139.kept hg126 (hI139.row hr128).1 (hI139.row hr128).2;have hB141 := fbU_at hB66 hg81 (fun hlt => absurd hlt (by omega));have hB142 := fbU_new hB141 hg111;have hB143 := fbU_row hB142 (InS.low hr128 (by omega)) hg126;have hk144 := hk67.kept hg81 (by simp; omega);have hk145 := hk144.kept hg111 (by simp);have hk146 := hk145.kept hg126 (own_neT hr128 hk145 (by decide));exact ⟨v124, (ks ++ [p74.1]), (l75 ++ l76), o.sub ⟨rfl, rfl, rfl, trivial⟩, rfl, by first | exact hP' | (rw [List.nil_append]), by first | (simp; done) | exact hnn', (fun_eq hM133 (by first | rfl | (funext b; rfl)) (by omega)), hF136, hr138, hI140, (row_eq hr125' (rfl)), hB143, hk146⟩
end Go.Proofs.YtfiplhnplmadmaaDoor

/- Package disk: New, what is no disk; the disk as one object. Conditions: none. -/
namespace Go.Proofs.YtfiplhnplmadmaaDoor
open Go.RowKit Go.PlainAid
set_option linter.unusedVariables false

set_option maxRecDepth 100000 in
theorem dNew_any  (w : World)  :
    Calls Tryd.prog 10 #[] w fun e w' => ∃ (N : Nat) (M : Nat), e = .returned (pt N 0) ∧ DkP (fun _ => False) w.heap.size w' N M (.slice none 0 0) (fun _ => none) 0 ⟨fun _ => none, [], 1, 1⟩ ∧ Below w.heap.size w w' := by
 have hB0 := Below.refl w.heap.size w;refine co_enter (n := 4) Tryd.func10 rfl rfl rfl [] rfl (fun a s => ?_);refine q2 ?_;refine pk0 (v := .pointer none) s rfl fun _ s => q3 ?_;refine pw s rfl (op_makeO intK fileV (by kernel_rfl) (by kernel_rfl) rfl) ?_;rintro _ w3 a2 ⟨B4, rfl, hN5, hz6, hm7, hg8⟩ s;have hz9 := hg8.size;have hl10 := hm7.lt;refine pk0 (v := .agg #[.bool true, .map (some B4), .slice none 0 0, .int .i64 1, .int .i64 1]) s rfl fun _ s => ?_;refine pw s rfl (op_new (v := fun N => pt N 0) (T := 66) (cs := #[.bool true, .map (some B4), .slice none 0 0, .int .i64 1, .int .i64 1]) (by kernel_rfl) (by kernel_rfl) (by kernel_rfl)) ?_;rintro _ w13 a12 ⟨N14, rfl, hN17, hz18, hk16, hg15⟩ s;have hz19 := hg15.size
 try dsimp only at s
 refine pk0 (v := pt N14 0) s rfl fun _ s => q4 ?_;refine co_ret1 s rfl rfl ?_;have hM21 := hm7.kept hg15 (by simp);have hB22 := hb_new hB0 hg8;have hB23 := hb_new hB22 hg15;exact ⟨_, _, rfl, ⟨hk16, hM21, World.ownsRow_nil _ _ _ _, Fam.none, .inr (by omega), .inr (by omega), InS.nil, fun _ => rfl⟩, hB23⟩
def TyS (w : World) (k : Nat) : Prop := (∃ cs T fr, w.heap[k]? = some (.cells cs T fr) ∧ (T = 66 ∨ T = 74 ∨ T = 5)) ∨ ∃ es cl, w.heap[k]? = some (.map es cl)

/-- A zone: which blocks are an object's; all from top on are. -/
structure Zn where
  P : Nat → Prop
  top : Nat
  up : ∀ k, top ≤ k → P k
@[coe] def Zn.nat (b : Nat) : Zn := ⟨fun k => b ≤ k, b, fun _ h => h⟩
instance : Coe Nat Zn := ⟨Zn.nat⟩
/-- The blocks of S, and what is made from a world of n blocks on. -/
def Zn.fp (S : Nat → Prop) (n : Nat) : Zn := ⟨fun k => S k ∨ n ≤ k, n, fun _ h => .inr h⟩
def SD (base : Zn) (w : World) (k : Nat) : Prop := base.P k ∧ TyS w k
/-- A type that is none of the disk's. -/
def offD (T : TypeId) : Prop := T ≠ 66 ∧ T ≠ 74 ∧ T ≠ 5
instance (T : TypeId) : Decidable (offD T) := by unfold offD; infer_instance
abbrev ButD (base : Zn) (w x : World) : Prop := But (SD base w) w x
/-- A disk that was made, of at most c files told, all of it from base on. -/
def DObj (base : Zn) (w : World) (d : Nat) (c : Nat) (s : DkS) : Prop := ∃ M pv g c', (c' ≤ c ∧ base.top ≤ w.heap.size) ∧ DkP base.P base.top w d M pv g c' s
section
variable {base : Zn} {w x : World} {d c M : Nat} {pv : Value} {g : Int → Option FileG} {s : DkS} {S : Nat → Prop} {n : Nat}
theorem rowblk {B sz k : Nat} {e : TypeId} {v : Value} {xs : List Value} (h : w.ownsRow B e sz v k xs) {i : Nat} (hi : v.ownBlock = some i) : ∃ cs, w.heap[i]? = some (.cells cs e (0, 0)) := by
  rcases h.2 with ⟨rfl, _⟩ | ⟨g, c, cur, rfl, _, hh, _⟩
  · simp [Value.ownBlock] at hi
  · simp only [Value.ownBlock, Option.some.injEq] at hi; subst hi; exact ⟨_, hh⟩
theorem DkP.up (h : DkP base.P base.top w d M pv g c s) : DkP (SD base w) n w d M pv g c s := by
  have key : ∀ {B sz k : Nat} {e : TypeId} {v : Value} {xs : List Value}, w.ownsRow B e sz v k xs → (e = 66 ∨ e = 74 ∨ e = 5) → InS base.P base.top v → InS (SD base w) n v := by
    intro B sz k e v xs hr he hi i hb
    obtain ⟨cs, hc⟩ := rowblk hr hb
    exact .inl ⟨by rcases hi i hb with q | q; exact q; exact base.up _ q, .inl ⟨cs, e, _, hc, he⟩⟩
  refine ⟨h.blk, h.map, h.row, ⟨fun k f hf => ⟨(h.fam.1 k f hf).1, key (h.fam.1 k f hf).1 (.inr (.inr rfl)) (h.fam.1 k f hf).2⟩, h.fam.2⟩, ?_, ?_, key h.row (.inr (.inl rfl)) h.sp, h.rel⟩
  · exact .inl ⟨by rcases h.sd with q | q; exact q; exact base.up _ q, .inl ⟨_, _, _, h.blk, .inl rfl⟩⟩
  · obtain ⟨l, ⟨es, cl, h1, _⟩, _⟩ := h.map
    exact .inl ⟨by rcases h.sM with q | q; exact q; exact base.up _ q, .inr ⟨es, cl, h1⟩⟩
theorem DkP.dn {w0 : World} (h : DkP (SD base w0) n w d M pv g c s) (hb : base.top ≤ n) : DkP base.P base.top w d M pv g c s := by
  have key : ∀ {v : Value}, InS (SD base w0) n v → InS base.P base.top v := fun hi i hb' => by
    rcases hi i hb' with q | q
    · exact .inl q.1
    · exact .inr (by omega)
  refine ⟨h.blk, h.map, h.row, ⟨fun k f hf => ⟨(h.fam.1 k f hf).1, key (h.fam.1 k f hf).2⟩, h.fam.2⟩, ?_, ?_, key h.sp, h.rel⟩
  · rcases h.sd with q | q
    · exact .inl q.1
    · exact .inr (by omega)
  · rcases h.sM with q | q
    · exact .inl q.1
    · exact .inr (by omega)
theorem DObj.lo (h : DObj base w d c s) : base.top ≤ w.heap.size := by
  obtain ⟨M, pv, g, c', hc, h⟩ := h
  exact hc.2
theorem row_same {B sz k : Nat} {e : TypeId} {v : Value} {xs : List Value} (h : w.ownsRow B e sz v k xs) (hs : w.heap.size ≤ x.heap.size) (hk : ∀ i, v.ownBlock = some i → x.heap[i]? = w.heap[i]?) : x.ownsRow B e sz v k xs := by
  refine ⟨h.1, ?_⟩
  rcases h.2 with h1 | ⟨g, c, cur, rfl, hg, hh, h3⟩
  · exact .inl h1
  · exact .inr ⟨g, c, cur, rfl, hg, by rw [hk g rfl]; exact hh, h3⟩
/-- All that is the disk's is as it was: so is the disk. -/
theorem DObj.keepZ (h : DObj base w d c s) (hs : w.heap.size ≤ x.heap.size) (hk : ∀ k, SD base w k → x.heap[k]? = w.heap[k]?) : DObj base x d c s := by
  obtain ⟨M, pv, g, c', hc, h⟩ := h
  have key : ∀ {B sz k : Nat} {e : TypeId} {v : Value} {xs : List Value}, w.ownsRow B e sz v k xs → (e = 66 ∨ e = 74 ∨ e = 5) → InS base.P base.top v → x.ownsRow B e sz v k xs := by
    intro B sz k e v xs hr he hz
    refine row_same hr hs fun i hi => ?_
    obtain ⟨cs, hcs⟩ := rowblk hr hi
    exact hk i ⟨by rcases hz i hi with q | q; exact q; exact base.up _ q, .inl ⟨cs, e, _, hcs, he⟩⟩
  refine ⟨M, pv, g, c', ⟨hc.1, Nat.le_trans hc.2 hs⟩, ⟨?_, ?_, key h.row (.inr (.inl rfl)) h.sp, ⟨fun k f hf => ⟨key (h.fam.1 k f hf).1 (.inr (.inr rfl)) (h.fam.1 k f hf).2, (h.fam.1 k f hf).2⟩, h.fam.2⟩, h.sd, h.sM, h.sp, h.rel⟩⟩
  · have hb := h.blk
    unfold Blk at hb ⊢
    rw [hk d ⟨by rcases h.sd with q | q; exact q; exact base.up _ q, .inl ⟨_, _, _, hb, .inl rfl⟩⟩]; exact hb
  · obtain ⟨l, ⟨es, cl, h1, h2⟩, h3⟩ := h.map
    exact ⟨l, ⟨es, cl, by rw [hk M ⟨by rcases h.sM with q | q; exact q; exact base.up _ q, .inr ⟨es, cl, h1⟩⟩]; exact h1, h2⟩, h3⟩
/-- The disk lies in another zone, too. -/
theorem DObj.zone {base2 : Zn} (h : DObj base w d c s) (hz : ∀ k, k < w.heap.size → base.P k → base2.P k) (ht : base2.top ≤ w.heap.size) : DObj base2 w d c s := by
  obtain ⟨M, pv, g, c', hc, h⟩ := h
  have up : ∀ {k : Nat}, base.P k ∨ base.top ≤ k → base.P k := fun q => by rcases q with q | q; exact q; exact base.up _ q
  have key : ∀ {B sz k : Nat} {e : TypeId} {v : Value} {xs : List Value}, w.ownsRow B e sz v k xs → InS base.P base.top v → InS base2.P base2.top v := fun hr hi i hb' => .inl (hz i (hr.lt i hb').2 (up (hi i hb')))
  have hM : M < w.heap.size := by
    obtain ⟨l, ⟨es, cl, h1, _⟩, _⟩ := h.map
    exact (Array.getElem?_eq_some_iff.1 h1).1
  exact ⟨M, pv, g, c', ⟨hc.1, ht⟩, ⟨h.blk, h.map, h.row, ⟨fun k f hf => ⟨(h.fam.1 k f hf).1, key (h.fam.1 k f hf).1 (h.fam.1 k f hf).2⟩, h.fam.2⟩, .inl (hz d h.blk.lt (up h.sd)), .inl (hz M hM (up h.sM)), key h.row h.sp, h.rel⟩⟩
theorem DObj.keep (h : DObj base w d c s) (hs : w.heap.size ≤ x.heap.size) (hk : ∀ k, TyS w k → x.heap[k]? = w.heap[k]?) : DObj base x d c s := h.keepZ hs fun k hk2 => hk k hk2.2
theorem DObj.gr {row : Option Nat} (h : DObj base w d c s) (hg : w.grownBy x row) (hr : ∀ k, row = some k → ¬ TyS w k) : DObj base x d c s :=
  h.keep hg.size fun k hk => by
    have hlt : k < w.heap.size := by
      rcases hk with ⟨cs, T, fr, h1, _⟩ | ⟨es, cl, h1⟩
      · exact (Array.getElem?_eq_some_iff.1 h1).1
      · exact (Array.getElem?_eq_some_iff.1 h1).1
    exact hg.block k hlt (fun e => hr k e.symm hk)
theorem DObj.new (h : DObj base w d c s) (hg : w.grownBy x none) : DObj base x d c s := h.gr hg (fun k e => by cases e)
theorem DObj.call (h : DObj base w d c s) (hb : Below w.heap.size w x) : DObj base x d c s := h.new (below_grown hb)
theorem not_ty {N : Nat} {T : TypeId} {cs : Array Value} (hb : w.heap[N]? = some (.cells cs T (0, 0))) (hT : offD T) : ¬ TyS w N := by
  rintro (⟨cs', T', fr, h1, h2⟩ | ⟨es, cl, h1⟩)
  · rw [hb] at h1
    simp only [Option.some.injEq, Obj.cells.injEq] at h1
    obtain ⟨_, rfl, _⟩ := h1
    rcases h2 with q | q | q
    · exact hT.1 q
    · exact hT.2.1 q
    · exact hT.2.2 q
  · rw [hb] at h1; cases h1
theorem DObj.at {N : Nat} {T : TypeId} {cs : Array Value} (h : DObj base w d c s) (hb : Blk w N T cs) (hT : offD T) (hg : w.grownBy x (some N)) : DObj base x d c s := h.gr hg (fun k e => by cases e; exact not_ty hb hT)
theorem DObj.row {B sz k : Nat} {e : TypeId} {v : Value} {xs : List Value} (h : DObj base w d c s) (hr : w.ownsRow B e sz v k xs) (hT : offD e) (hg : w.grownBy x v.ownBlock) : DObj base x d c s :=
  h.gr hg (fun k e => by obtain ⟨cs, hc⟩ := rowblk hr e; exact not_ty hc hT)
theorem rowD {B sz k : Nat} {e : TypeId} {v : Value} {xs : List Value} (hr : w.ownsRow B e sz v k xs) (hT : offD e) (hb : ButD base w x) : x.ownsRow B e sz v k xs :=
  row_same hr hb.size fun i hi => by
    obtain ⟨cs, hc⟩ := rowblk hr hi
    exact hb.block i (Array.getElem?_eq_some_iff.1 hc).1 (fun h => not_ty hc hT h.2)
theorem blkD {N : Nat} {T : TypeId} {cs : Array Value} (h : Blk w N T cs) (hT : offD T) (hb : ButD base w x) : Blk x N T cs := by
  have hl := h.lt
  unfold Blk at h ⊢
  rw [hb.block N hl (fun h' => not_ty h hT h'.2)]; exact h
theorem hbD {w0 : World} (h : Below w0.heap.size w0 w) (hb : ButD w0.heap.size w x) : Below w0.heap.size w0 x := below_but h hb h.size (fun i _ h => h.1)
theorem DObj.low {b2 : Nat} (h : DkP (fun _ => False) b2 w d M pv g c s) (hb : base.top ≤ b2) (hw : b2 ≤ w.heap.size) : DObj base w d c s :=
  have key : ∀ {v : Value}, InS (fun _ => False) b2 v → InS base.P base.top v := fun hi i hb' => .inr (by rcases hi i hb' with q | q; exact absurd q id; omega)
  ⟨M, pv, g, c, ⟨Nat.le_refl _, Nat.le_trans hb hw⟩, ⟨h.blk, h.map, h.row, ⟨fun k f hf => ⟨(h.fam.1 k f hf).1, key (h.fam.1 k f hf).2⟩, h.fam.2⟩, by rcases h.sd with q | q; exact absurd q id; exact .inr (by omega), by rcases h.sM with q | q; exact absurd q id; exact .inr (by omega), key h.sp, h.rel⟩⟩
end
def s0D : DkS := ⟨fun _ => none, [], 1, 1⟩


theorem tNew (base : Zn) (w : World) (hb : base.top ≤ w.heap.size) : Calls Tryd.prog 10 #[] w fun e w' => ∃ N, e = .returned (pt N 0) ∧ DObj base w' N 0 s0D ∧ Below w.heap.size w w' :=
  (dNew_any w).mono fun e x ⟨N, M, h1, h2, h3⟩ => ⟨N, h1, DObj.low h2 hb h3.size, h3⟩
theorem tWrite {base : Zn} {d c : Nat} {s : DkS} (w : World) (n : Int) (t : ByteArray) (h : DObj base w d c s) (hsz : (getF s.fm n).1.length + t.size ≤ 1000000000) (hpl : s.ps.length ≤ 100000) : Calls Tryd.prog 28 #[pt d 0, .int .i64 n, .string t] w fun e w' => e = .returned (.int .i64 (wrE n)) ∧ DObj base w' d (c + 1) (wrS s n t) ∧ ButD base w w' := by
  have hlo := h.lo
  obtain ⟨M, pv, g, c', hc, hP⟩ := h
  exact (dWrite_any w (SD base w) d M pv g c' s n t w (But.refl _ _) hP.up hsz hpl).mono fun e x ⟨pv', g', c2, h1, h2, h3, h4⟩ => ⟨h1, ⟨M, pv', g', c2, ⟨by omega, Nat.le_trans hlo h4.size⟩, h2.dn hlo⟩, h4⟩
theorem tSync {base : Zn} {d c : Nat} {s : DkS} (w : World) (h : DObj base w d c s) (hsb : ∀ i, 0 ≤ sumP (s.ps.take i) ∧ sumP (s.ps.take i) ≤ 1000000000000) : Calls Tryd.prog 13 #[pt d 0] w fun e w' => e = .returned (.int .i64 (sumP s.ps)) ∧ DObj base w' d (c + s.ps.length) (synS s) ∧ ButD base w w' := by
  have hlo := h.lo
  obtain ⟨M, pv, g, c', hc, hP⟩ := h
  exact (dSync_any w (SD base w) d M pv g c' s w (But.refl _ _) hP.up hsb).mono fun e x ⟨pv', g', c2, h1, h2, h3, h4⟩ => ⟨h1, ⟨M, pv', g', c2, ⟨by omega, Nat.le_trans hlo h4.size⟩, h2.dn hlo⟩, h4⟩
theorem tData {base : Zn} {d c : Nat} {s : DkS} (w : World) (n : Int) (h : DObj base w d c s) : Calls Tryd.prog 27 #[pt d 0, .int .i64 n] w fun e w' => e = .returned (.string (datF s.fm n)) ∧ DObj base w' d c s ∧ ButD base w w' := by
  have hlo := h.lo
  obtain ⟨M, pv, g, c', hc, hP⟩ := h
  exact (dData_any w (SD base w) d M pv g c' s n w (But.refl _ _) hP.up).mono fun e x ⟨h1, h2, h4⟩ => ⟨h1, ⟨M, pv, g, c', ⟨by omega, Nat.le_trans hlo h4.size⟩, h2.dn hlo⟩, h4⟩
theorem tFiles {base : Zn} {d c : Nat} {s : DkS} (w : World) (h : DObj base w d c s) (hc1 : c ≤ 1000000) : Calls Tryd.prog 26 #[pt d 0] w fun e w' => ∃ (ys : List Int) (u : Value), e = .returned u ∧ w'.ownsRow w.heap.size 3 1 u ys.length (ys.flatMap (intE .i64)) ∧ KeysF s.fm ys ∧ ys.length ≤ c ∧ DObj base w' d c s ∧ ButD base w w' := by
  have hlo := h.lo
  obtain ⟨M, pv, g, c', hc, hP⟩ := h
  exact (dFiles_any w (SD base w) d M pv g c' s w (But.refl _ _) hP.up (by omega)).mono fun e x ⟨ys, u, h1, h2, h3, h5, h6, h4⟩ => ⟨ys, u, h1, h2, h3, by omega, ⟨M, pv, g, c', ⟨hc.1, Nat.le_trans hlo h4.size⟩, h6.dn hlo⟩, h4⟩
end Go.Proofs.YtfiplhnplmadmaaDoor

/- Package disk, pure: what holds of a disk's state behind writes, a sync, a crash. Conditions: none. -/
namespace Go.Proofs.YtfiplhnplmadmaaDoor
open Go.RowKit

/-- What is told of a file's pieces. -/
def sumK (ps : List PcT) (k : Int) : Int := ps.foldl (fun n p => if p.1 = k then n + p.2 else n) 0
theorem sumK_from (k : Int) : ∀ (ps : List PcT) (n : Int), ps.foldl (fun n p => if p.1 = k then n + p.2 else n) n = n + sumK ps k
  | [], n => by simp [sumK]
  | p :: r, n => by
    unfold sumK
    simp only [List.foldl_cons]
    by_cases e : p.1 = k
    · rw [if_pos e, if_pos e, sumK_from k r, sumK_from k r]; omega
    · rw [if_neg e, if_neg e, sumK_from k r, sumK_from k r]; omega
theorem sumK_cons (p : PcT) (r : List PcT) (k : Int) : sumK (p :: r) k = (if p.1 = k then p.2 else 0) + sumK r k := by
  conv => lhs; unfold sumK
  simp only [List.foldl_cons]
  by_cases e : p.1 = k
  · rw [if_pos e, if_pos e, sumK_from]; omega
  · rw [if_neg e, if_neg e, sumK_from]
theorem sumP_from : ∀ (ps : List PcT) (n : Int), ps.foldl (fun n p => n + p.2) n = n + sumP ps
  | [], n => by simp [sumP]
  | p :: r, n => by
    unfold sumP
    simp only [List.foldl_cons]
    rw [sumP_from r, sumP_from r]; omega
theorem sumP_cons (p : PcT) (r : List PcT) : sumP (p :: r) = p.2 + sumP r := by
  conv => lhs; unfold sumP
  simp only [List.foldl_cons]
  rw [sumP_from]; omega
theorem sumK_app (k : Int) : ∀ (a b : List PcT), sumK (a ++ b) k = sumK a k + sumK b k
  | [], b => by simp [sumK]
  | p :: r, b => by rw [List.cons_append, sumK_cons, sumK_cons, sumK_app k r b]; omega
theorem sumP_app : ∀ (a b : List PcT), sumP (a ++ b) = sumP a + sumP b
  | [], b => by simp [sumP]
  | p :: r, b => by rw [List.cons_append, sumP_cons, sumP_cons, sumP_app r b]; omega
theorem sumP_nn {ps : List PcT} (h : ∀ p ∈ ps, 0 ≤ p.2) : 0 ≤ sumP ps := by
  induction ps with
  | nil => simp [sumP]
  | cons p r ih =>
    rw [sumP_cons]
    have h1 := h p (by simp); have h2 := ih (fun q hq => h q (by simp [hq]))
    omega
theorem sumP_take {ps : List PcT} (h : ∀ p ∈ ps, 0 ≤ p.2) (i : Nat) : 0 ≤ sumP (ps.take i) ∧ sumP (ps.take i) ≤ sumP ps := by
  have e : sumP ps = sumP (ps.take i) + sumP (ps.drop i) := by rw [← sumP_app, List.take_append_drop]
  have h1 := sumP_nn (ps := ps.take i) (fun p hp => h p (List.mem_of_mem_take hp))
  have h2 := sumP_nn (ps := ps.drop i) (fun p hp => h p (List.mem_of_mem_drop hp))
  omega
theorem getF_put (fm : Int → Option FileM) (a : Int) (m : FileM) (k : Int) : getF (putF fm a m) k = if k = a then m else getF fm k := by
  unfold getF putF; by_cases e : k = a <;> simp [e]
/-- What holds of a disk's state behind m writes of at most 1048576 bytes each. -/
structure DkI (s : DkS) (m : Nat) : Prop where
  len : ∀ k, ((getF s.fm k).1.length : Int) ≤ m * 1048576
  pos : ∀ p ∈ s.ps, 0 ≤ p.2
  sum : ∀ k, (getF s.fm k).2.1 + sumK s.ps k = ((getF s.fm k).1.length : Int)
  saf : ∀ k, 0 ≤ (getF s.fm k).2.1
  tot : sumP s.ps ≤ m * 1048576
  pl : s.ps.length ≤ m
  cov : ∀ k, (s.fm k).isSome = true → (getF s.fm k).2.2 = true ∨ ∃ p ∈ s.ps, p.1 = k
theorem s0_I : DkI s0D 0 := ⟨fun k => by simp [s0D, getF, mz], fun p hp => (by cases hp), fun k => by simp [s0D, getF, mz, sumK], fun k => by simp [s0D, getF, mz], by simp [s0D, sumP], by simp [s0D], fun k h => by simp [s0D] at h⟩
theorem DkI.up {s : DkS} {m m' : Nat} (h : DkI s m) (hm : m ≤ m') : DkI s m' :=
  ⟨fun k => by have := h.len k; omega, h.pos, h.sum, h.saf, by have := h.tot; omega, by have := h.pl; omega, h.cov⟩
theorem size_bytes (t : ByteArray) : t.data.toList.length = t.size := rfl
theorem DkI.write {s : DkS} {m : Nat} (h : DkI s m) (n : Int) (t : ByteArray) (ht : t.size ≤ 1048576) : DkI (wrS s n t) (m + 1) := by
  unfold wrS
  by_cases he : wrE n = 0
  · rw [if_pos he]
    refine ⟨fun k => ?_, fun p hp => ?_, fun k => ?_, fun k => ?_, ?_, ?_, fun k hk => ?_⟩
    · have hl := h.len k
      show ((getF (putF s.fm n _) k).1.length : Int) ≤ _
      rw [getF_put]
      by_cases e : k = n
      · subst e; rw [if_pos rfl]; simp only [List.length_append, size_bytes]; omega
      · rw [if_neg e]; omega
    · rcases List.mem_append.1 hp with hp | hp
      · exact h.pos p hp
      · simp at hp; subst hp; show (0 : Int) ≤ (t.size : Int); omega
    · have hs := h.sum k
      show (getF (putF s.fm n _) k).2.1 + sumK (s.ps ++ [(n, (t.size : Int))]) k = ((getF (putF s.fm n _) k).1.length : Int)
      rw [getF_put, sumK_app, sumK_cons]
      by_cases e : k = n
      · subst e; rw [if_pos rfl, if_pos rfl]; simp only [List.length_append, size_bytes, sumK, List.foldl_nil] at *; omega
      · rw [if_neg e, if_neg (fun q => e q.symm)]; simp only [sumK, List.foldl_nil] at *; omega
    · show 0 ≤ (getF (putF s.fm n _) k).2.1
      rw [getF_put]
      by_cases e : k = n
      · rw [if_pos e]; exact h.saf n
      · rw [if_neg e]; exact h.saf k
    · have := h.tot
      show sumP (s.ps ++ [(n, (t.size : Int))]) ≤ _
      rw [sumP_app, sumP_cons]; simp only [sumP, List.foldl_nil] at *; omega
    · have := h.pl
      show (s.ps ++ [(n, (t.size : Int))]).length ≤ m + 1
      simp; omega
    · by_cases e : k = n
      · exact .inr ⟨(n, (t.size : Int)), by simp, e.symm⟩
      · have hk' : (s.fm k).isSome = true := by
          have : putF s.fm n ((getF s.fm n).1 ++ t.data.toList, (getF s.fm n).2) k = s.fm k := by unfold putF; rw [if_neg e]
          rw [← this]; exact hk
        rcases h.cov k hk' with q | ⟨p, hp, q⟩
        · left; show (getF (putF s.fm n _) k).2.2 = true; rw [getF_put, if_neg e]; exact q
        · exact .inr ⟨p, by simp [hp], q⟩
  · rw [if_neg he]; exact h.up (by omega)
theorem syn_get : ∀ (ps : List PcT) (fm : Int → Option FileM) (k : Int), (getF (synF fm ps) k).1 = (getF fm k).1 ∧ ((∃ p ∈ ps, p.1 = k) → (getF (synF fm ps) k).2 = (((getF fm k).1.length : Int), true)) ∧ ((¬ ∃ p ∈ ps, p.1 = k) → (getF (synF fm ps) k).2 = (getF fm k).2 ∧ synF fm ps k = fm k)
  | [], fm, k => by simp [synF]
  | p :: r, fm, k => by
    have e : synF fm (p :: r) = synF (putF fm p.1 ((getF fm p.1).1, ((getF fm p.1).1.length : Int), true)) r := rfl
    obtain ⟨i1, i2, i3⟩ := syn_get r (putF fm p.1 ((getF fm p.1).1, ((getF fm p.1).1.length : Int), true)) k
    rw [e]
    rw [getF_put] at i1 i2 i3
    by_cases ek : k = p.1
    · subst ek
      rw [if_pos rfl] at i1 i2 i3
      refine ⟨i1, fun _ => ?_, fun hn => absurd ⟨p, by simp, rfl⟩ hn⟩
      by_cases hr : ∃ q ∈ r, q.1 = p.1
      · exact i2 hr
      · exact (i3 hr).1
    · rw [if_neg ek] at i1 i2 i3
      refine ⟨i1, fun ⟨q, hq, e2⟩ => ?_, fun hn => ?_⟩
      · rcases List.mem_cons.1 hq with rfl | hq
        · exact absurd e2.symm ek
        · exact i2 ⟨q, hq, e2⟩
      · have h3 := i3 (fun ⟨q, hq, e2⟩ => hn ⟨q, by simp [hq], e2⟩)
        refine ⟨h3.1, h3.2.trans ?_⟩
        unfold putF; rw [if_neg ek]
theorem sumK_0 {ps : List PcT} {k : Int} (h : ¬ ∃ p ∈ ps, p.1 = k) : sumK ps k = 0 := by
  induction ps with
  | nil => simp [sumK]
  | cons p r ih =>
    rw [sumK_cons, if_neg (fun e => h ⟨p, by simp, e⟩), ih (fun ⟨q, hq, e⟩ => h ⟨q, by simp [hq], e⟩)]; rfl
/-- Behind a sync all is safe. -/
theorem DkI.sync {s : DkS} {m : Nat} (h : DkI s m) : DkI (synS s) m ∧ (∀ k, (getF (synS s).fm k).1 = (getF s.fm k).1) ∧ (∀ k, (getF (synS s).fm k).2.1 = ((getF s.fm k).1.length : Int)) ∧ ∀ k, ((synS s).fm k).isSome = true → (getF (synS s).fm k).2.2 = true := by
  have key : ∀ k, (getF (synF s.fm s.ps) k).2.1 = ((getF s.fm k).1.length : Int) := by
    intro k
    obtain ⟨i1, i2, i3⟩ := syn_get s.ps s.fm k
    by_cases hr : ∃ q ∈ s.ps, q.1 = k
    · rw [i2 hr]
    · rw [(i3 hr).1]; have := h.sum k; rw [sumK_0 hr] at this; omega
  have key1 : ∀ k, (getF (synF s.fm s.ps) k).1 = (getF s.fm k).1 := fun k => (syn_get s.ps s.fm k).1
  have key2 : ∀ k, (synF s.fm s.ps k).isSome = true → (getF (synF s.fm s.ps) k).2.2 = true := by
    intro k hk
    obtain ⟨i1, i2, i3⟩ := syn_get s.ps s.fm k
    by_cases hr : ∃ q ∈ s.ps, q.1 = k
    · rw [i2 hr]
    · rw [(i3 hr).1]
      rcases h.cov k (by rw [← (i3 hr).2]; exact hk) with q | q
      · exact q
      · exact absurd q hr
  refine ⟨⟨fun k => ?_, fun p hp => (by cases hp), fun k => ?_, fun k => ?_, ?_, ?_, fun k hk => .inl (key2 k hk)⟩, key1, key, key2⟩
  · show ((getF (synF s.fm s.ps) k).1.length : Int) ≤ _; rw [key1]; exact h.len k
  · show (getF (synF s.fm s.ps) k).2.1 + sumK [] k = ((getF (synF s.fm s.ps) k).1.length : Int); rw [key, key1]; simp [sumK]
  · show 0 ≤ (getF (synF s.fm s.ps) k).2.1; rw [key]; omega
  · show sumP [] ≤ _; simp [sumP]; omega
  · show ([] : List PcT).length ≤ m; simp
section
variable {s : DkS} {m : Nat}
theorem DkI.hsz (h : DkI s m) (hm : m ≤ 900) (n : Int) {t : ByteArray} (ht : t.size ≤ 1048576) : (getF s.fm n).1.length + t.size ≤ 1000000000 := by
  have := h.len n; omega
theorem DkI.hpl (h : DkI s m) (hm : m ≤ 900) : s.ps.length ≤ 100000 := by have := h.pl; omega
theorem DkI.hsb (h : DkI s m) (hm : m ≤ 900) (i : Nat) : 0 ≤ sumP (s.ps.take i) ∧ sumP (s.ps.take i) ≤ 1000000000000 := by
  have h1 := sumP_take h.pos i; have h2 := h.tot; omega
end
end Go.Proofs.YtfiplhnplmadmaaDoor

/- The sum as plain mathematics: a word that is turned bit by bit. Conditions: none. -/
namespace Go.Proofs.YtfiplhnplmadmaaDoor

/-- One step: the lowest bit goes; if it was a one, the word is changed. -/
def lfs (c : Nat) : Nat := (c / 2) ^^^ (if c % 2 = 1 then 3988292384 else 0)
/-- So many steps. -/
def lfn : Nat → Nat → Nat
  | 0, c => c
  | n + 1, c => lfn n (lfs c)

theorem lfs_xor (a b : Nat) : lfs (a ^^^ b) = lfs a ^^^ lfs b := by
  unfold lfs
  have hm : (a ^^^ b) % 2 = (a % 2) ^^^ (b % 2) := Nat.xor_mod_two_pow (n := 1)
  rw [Nat.xor_div_two, hm]
  have ha : a % 2 = 0 ∨ a % 2 = 1 := by omega
  have hb : b % 2 = 0 ∨ b % 2 = 1 := by omega
  rcases ha with ha | ha <;> rcases hb with hb | hb <;> rw [ha, hb]
  · simp
  · simp [Nat.xor_assoc]
  · simp only [if_true, Nat.zero_ne_one, if_false, Nat.xor_zero]
    rw [Nat.xor_assoc, Nat.xor_assoc, Nat.xor_comm (b / 2)]
  · simp only [Nat.xor_self, if_true, Nat.zero_ne_one, if_false, Nat.xor_zero]
    rw [Nat.xor_assoc, ← Nat.xor_assoc 3988292384, Nat.xor_comm 3988292384, Nat.xor_assoc (b / 2), Nat.xor_self, Nat.xor_zero]
theorem lfs_lt {c : Nat} (h : c < 4294967296) : lfs c < 4294967296 := by
  unfold lfs
  exact Nat.xor_lt_two_pow (n := 32) (by omega) (by split <;> decide)
theorem lfn_xor : ∀ (n a b : Nat), lfn n (a ^^^ b) = lfn n a ^^^ lfn n b
  | 0, _, _ => rfl
  | n + 1, a, b => by show lfn n (lfs (a ^^^ b)) = _; rw [lfs_xor, lfn_xor n]; rfl
theorem lfn_lt : ∀ (n : Nat) {c : Nat}, c < 4294967296 → lfn n c < 4294967296
  | 0, _, h => h
  | n + 1, _, h => lfn_lt n (lfs_lt h)
theorem lfn_add : ∀ (m n c : Nat), lfn n (lfn m c) = lfn (m + n) c
  | 0, n, c => by rw [Nat.zero_add]; rfl
  | m + 1, n, c => by rw [show m + 1 + n = (m + n) + 1 by omega]; exact lfn_add m n (lfs c)
/-- So many steps at once: the low bits' part, and what is above. -/
theorem lfn_split : ∀ (n c : Nat), lfn n c = c / 2 ^ n ^^^ lfn n (c % 2 ^ n)
  | 0, c => by simp [lfn, Nat.mod_one]
  | n + 1, c => by
    have e1 : c % 2 ^ (n + 1) / 2 = c / 2 % 2 ^ n := by
      rw [Nat.pow_succ, Nat.mul_comm, Nat.mod_mul_right_div_self]
    have e2 : c % 2 ^ (n + 1) % 2 = c % 2 := by
      rw [Nat.pow_succ, Nat.mul_comm]; exact Nat.mod_mul_right_mod c 2 (2 ^ n)
    show lfn n (lfs c) = _ ^^^ lfn n (lfs (c % 2 ^ (n + 1)))
    unfold lfs
    rw [e1, e2, lfn_xor, lfn_xor, lfn_split n (c / 2), Nat.div_div_eq_div_mul, Nat.xor_assoc, show 2 * 2 ^ n = 2 ^ (n + 1) by rw [Nat.pow_succ]; omega]
theorem lfn_4 (c : Nat) : lfn 4 c = c / 16 ^^^ lfn 4 (c % 16) := lfn_split 4 c
theorem lfn_44 (c : Nat) : lfn 4 (lfn 4 c) = lfn 8 c := lfn_add 4 4 c

/-- What is made of a word by bytes. -/
def run (c : Nat) (l : List UInt8) : Nat := l.foldl (fun c b => lfn 8 (c ^^^ b.toNat)) c
theorem run_snoc (c : Nat) (l : List UInt8) (b : UInt8) : run c (l ++ [b]) = lfn 8 (run c l ^^^ b.toNat) := by simp [run]
theorem u8_lt (b : UInt8) : b.toNat < 256 := b.toNat_lt
/-- All bits turned. -/
def comp (c : Nat) : Nat := 4294967295 - c
theorem comp_xor {c : Nat} (h : c < 4294967296) : comp c = c ^^^ 4294967295 := by
  have h1 : (~~~ (BitVec.ofNat 32 c)).toNat = 4294967295 - c := by
    rw [BitVec.toNat_not, BitVec.toNat_ofNat, Nat.mod_eq_of_lt (by omega)]
  have h2 : (BitVec.ofNat 32 c ^^^ BitVec.allOnes 32).toNat = c ^^^ 4294967295 := by
    rw [BitVec.toNat_xor, BitVec.toNat_ofNat, Nat.mod_eq_of_lt (by omega)]; rfl
  rw [BitVec.xor_allOnes] at h2
  unfold comp
  rw [← h1, h2]
theorem comp_lt (c : Nat) : comp c < 4294967296 := by unfold comp; omega
/-- The sum of a text that goes on from c. -/
def addOf (c : Nat) (l : List UInt8) : Nat := comp (run (comp c) l)
theorem addOf_lt (c : Nat) (l : List UInt8) : addOf c l < 4294967296 := comp_lt _
end Go.Proofs.YtfiplhnplmadmaaDoor

/- Package sum: Sum, at every text. Conditions: the table reads as it is laid. -/
namespace Go.Proofs.YtfiplhnplmadmaaDoor
open Go.RowKit Go.PlainAid

/-- The table reads as it is laid. -/
def Tab (w : World) : Prop := ∀ i, i < 16 → w.cell? ⟨0, i, none⟩ = some (.int .u32 (lfn 4 i : Nat))
theorem wrap_u32 (n : Int) : IntKind.u32.wrap n = n % 4294967296 := by simp [IntKind.wrap, IntKind.bits, IntKind.signed]
theorem bits_xor_u32 (a b : Nat) (ha : a < 4294967296) (hb : b < 4294967296) : bits .xor .u32 (a : Int) (b : Int) = ((a ^^^ b : Nat) : Int) := by
  have hx : a ^^^ b < 2 ^ 32 := Nat.xor_lt_two_pow (by omega) (by omega)
  have h1 : (BitVec.ofInt 32 (a : Int)).toNat = a := by
    rw [BitVec.ofInt_natCast, BitVec.toNat_ofNat]; exact Nat.mod_eq_of_lt (by omega)
  have h2 : (BitVec.ofInt 32 (b : Int)).toNat = b := by
    rw [BitVec.ofInt_natCast, BitVec.toNat_ofNat]; exact Nat.mod_eq_of_lt (by omega)
  show IntKind.u32.wrap ((BitVec.ofInt 32 (a : Int) ^^^ BitVec.ofInt 32 (b : Int)).toNat : Int) = _
  rw [BitVec.toNat_xor, h1, h2, wrap_u32]
  omega

theorem bits_and_15 (a : Nat) (ha : a < 4294967296) : bits .and .u32 (a : Int) 15 = ((a % 16 : Nat) : Int) := by
  have h1 : (BitVec.ofInt 32 (a : Int)).toNat = a := by
    rw [BitVec.ofInt_natCast, BitVec.toNat_ofNat]; exact Nat.mod_eq_of_lt (by omega)
  show IntKind.u32.wrap ((BitVec.ofInt 32 (a : Int) &&& BitVec.ofInt 32 15).toNat : Int) = _
  have h2 : (BitVec.ofInt 32 15).toNat = 15 := by decide
  rw [BitVec.toNat_and, h1, h2, wrap_u32, show (15 : Nat) = 2 ^ 4 - 1 by rfl, Nat.and_two_pow_sub_one_eq_mod]
  omega
theorem bits_not_u32 (a : Nat) (ha : a < 4294967296) : bits .xor .u32 IntKind.u32.max (a : Int) = ((comp a : Nat) : Int) := by
  rw [comp_xor ha, Nat.xor_comm, ← bits_xor_u32 4294967295 a (by omega) ha]; rfl
/-- One half of a byte, as the walk spells it. -/
theorem half_step (x : Nat) (hx : x < 4294967296) : ∃ r q y : Nat, bits .and .u32 (x : Int) 15 = (r : Int) ∧ r < 16 ∧ (x : Int) / 16 = (q : Int) ∧ bits .xor .u32 (q : Int) ((lfn 4 r : Nat) : Int) = (y : Int) ∧ y = lfn 4 x ∧ y < 4294967296 :=
  ⟨x % 16, x / 16, lfn 4 x, bits_and_15 x hx, by omega, by omega, by
    rw [bits_xor_u32 _ _ (by omega) (lfn_lt 4 (by omega)), ← lfn_4], rfl, lfn_lt 4 hx⟩
theorem take_snoc (s : ByteArray) (k : Nat) (h : k < s.size) : s.data.toList.take (k + 1) = s.data.toList.take k ++ [s[k]] := by
  rw [List.take_succ_eq_append_getElem (by simpa using h)]; rfl

set_option maxRecDepth 100000 in
set_option maxHeartbeats 800000 in
theorem sum_any (s : ByteArray) (w : World) (ht : Tab w) (hs : s.size ≤ 9223372036854775807) :
    Calls Tryd.prog 50 #[.string s] w fun e w' => e = .returned (.int .u32 (addOf 0 s.data.toList : Nat)) ∧ w = w' := by
  have HT := Lib.hid ht; clear ht
  go_enter Tryd.func50, Tryd.ntmps50
  go_wp2
  go_loopg [3, 7] (s.size + 1) (fun g s3 s7 wr => ∃ i c : Nat, s7 = .int .i64 i ∧ s3 = .int .u32 c ∧ i ≤ s.size ∧ s.size + 1 ≤ i + g ∧ Hid (c = run 4294967295 (s.data.toList.take i)) ∧ c < 4294967296 ∧ w = wr)
  case atStart => exact ⟨0, 4294967295, rfl, rfl, by omega, by omega, rfl, by omega, rfl⟩
  case round =>
    obtain ⟨i, c, rfl, rfl, hi, hg, hc, hcl, rfl⟩ := hrel
    by_cases hlt : i < s.size
    · obtain ⟨b, hb⟩ : ∃ b : UInt8, b = s[i] := ⟨_, rfl⟩
      have hb8 := u8_lt b
      obtain ⟨x, hx⟩ : ∃ x : Nat, x = c ^^^ b.toNat := ⟨_, rfl⟩
      have hxl : x < 4294967296 := by rw [hx]; exact Nat.xor_lt_two_pow (n := 32) hcl (by omega)
      have h2 : bits .xor .u32 (c : Int) ((s[i].toNat : Nat) : Int) = (x : Int) := by rw [← hb, hx]; exact bits_xor_u32 _ _ hcl (by omega)
      have h1 : (((s[i].toNat : Nat) : Int)) % 4294967296 = ((s[i].toNat : Nat) : Int) := by rw [← hb]; omega
      obtain ⟨r, q, y, h3, hr, h4, h5, hy, hyl⟩ := half_step x hxl
      obtain ⟨r', q', z, h6, hr', h7, h8, hz, hzl⟩ := half_step y hyl
      have k1 := HT.out r hr
      have k2 := HT.out r' hr'
      have HZ : Hid (z = run 4294967295 (s.data.toList.take (i + 1))) := Lib.hid (by
        rw [take_snoc s i hlt, run_snoc, ← hb, ← hc.out, ← hx, hz, hy]; exact lfn_44 x)
      clear hx hy hz hb hc
      go_wp2
      go_roundg (gk - 1)
      case rel => exact ⟨i + 1, z, by go_num, rfl, by omega, by omega, HZ.out, hzl, rfl⟩
      case measure => omega
    · have hi2 : i = s.size := by omega
      have HE : Hid (bits .xor .u32 IntKind.u32.max (c : Int) = ((addOf 0 s.data.toList : Nat) : Int)) := Lib.hid (by
        rw [bits_not_u32 c hcl]
        have e := hc.out
        rw [List.take_of_length_le (by simp; omega)] at e
        rw [e]; rfl)
      clear hi2 hc
      go_wp2
      go_ret
      exact ⟨ret_int HE.out, rfl⟩
end Go.Proofs.YtfiplhnplmadmaaDoor

/- The table of the sums, behind what came since. Conditions: none. -/
namespace Go.Proofs.YtfiplhnplmadmaaDoor
open Go.RowKit

theorem Tab.below {w w' : World} (h : Tab w) (hb : Below w.heap.size w w') : Tab w' := fun i hi => cell_below hb (h i hi)
theorem tab_pos {w : World} (h : Tab w) : 0 < w.heap.size := World.block_lt_of_cell? w _ (h 0 (by omega))
theorem Tab.since {w w' : World} (h : Tab w) {B : Nat} (hB : 0 < B) (hb : Below B w w') : Tab w' := fun i hi => by rw [hb.cell (p := ⟨0, i, none⟩) hB]; exact h i hi
theorem sum_is (s : ByteArray) (A : Nat) (w : World) (h : addOf 0 s.data.toList = A) (ht : Tab w) (hs : s.size ≤ 9223372036854775807) :
    Calls Tryd.prog 50 #[.string s] w fun e w' => e = .returned (.int .u32 (A : Nat)) ∧ w = w' :=
  (sum_any s w ht hs).mono fun _ _ ⟨he, hw⟩ => ⟨by rw [he, h], hw⟩
end Go.Proofs.YtfiplhnplmadmaaDoor

/- Package varnum: what Put, Len and the count of bytes answer for every number. Conditions: none. -/
namespace Go.Proofs.YtfiplhnplmadmaaDoor
open Go.RowKit

def wd (n : Int) : Int :=
  if n < 256 then 1 else if n < 65536 then 2 else if n < 16777216 then 3 else if n < 4294967296 then 4
  else if n < 1099511627776 then 5 else if n < 281474976710656 then 6 else if n < 72057594037927936 then 7 else 8

theorem wd_step (m : Int) (h : 0 ≤ m) (h1 : m < 18446744073709551616) (h2 : m / 256 ≠ 0) : wd m = 1 + wd (m / 256) := by
  unfold wd; repeat' split
  all_goals omega
theorem wd_bd (m : Int) : 1 ≤ wd m ∧ wd m ≤ 8 := by unfold wd; repeat' split
                                                    all_goals omega
theorem wd_end (m : Int) (h2 : m / 256 = 0) : wd m = 1 := by
  unfold wd; rw [if_pos (by omega)]
def lenOf (n : Int) : Int := if n < 248 then 1 else 1 + wd n
theorem lenOf_small (n : Int) (h : n < 248) : lenOf n = 1 := if_pos h
theorem lenOf_big (n : Int) (h : ¬ n < 248) : lenOf n = 1 + wd n := if_neg h

/-- k bytes of n, the most significant one first. -/
def be : Nat → Nat → List UInt8
  | 0, _ => []
  | k + 1, n => be k (n / 256) ++ [UInt8.ofNat n]
theorem be_len (k n : Nat) : (be k n).length = k := by
  induction k generalizing n with
  | zero => rfl
  | succ k ih => simp [be, ih]
def putL (n : Int) : List UInt8 := if n < 248 then [UInt8.ofNat n.toNat] else UInt8.ofNat (247 + wd n).toNat :: be (wd n).toNat n.toNat
theorem putL_small (n : Int) (h : n < 248) : putL n = [UInt8.ofNat n.toNat] := if_pos h
theorem putL_big (n : Int) (h : ¬ n < 248) : putL n = UInt8.ofNat (247 + wd n).toNat :: be (wd n).toNat n.toNat := if_neg h


set_option maxRecDepth 100000 in
set_option maxHeartbeats 1600000 in
theorem width_any (n : Int) (w : World) (h0 : 0 ≤ n) (h1 : n < 18446744073709551616) :
    Calls Tryd.prog 65 #[.int .u64 n] w fun e w' => e = .returned (.int .i64 (wd n)) ∧ w = w' := by
  go_enter Tryd.func65, Tryd.ntmps65
  go_wp2; go_step3; go_wp2; go_step3; go_wp2
  go_loopg [0, 3] 10 (fun g s0 s3 wr => ∃ (m : Int) (k : Nat), s0 = .int .u64 m ∧ s3 = .int .i64 k ∧ 0 ≤ m ∧ m < 18446744073709551616 ∧ k + g ≤ 11 ∧ 11 ≤ k + g ∧ 1 ≤ g ∧ wd n + 1 = k + wd m ∧ w = wr)
  case atStart => exact ⟨n, 1, rfl, rfl, h0, h1, by omega, by omega, by omega, by omega, rfl⟩
  case round =>
    obtain ⟨m, k, rfl, rfl, hm0, hm1, hk, hk2, hg, hw, rfl⟩ := hrel
    have hk8 : k ≤ 10 := by omega
    have H := Lib.hid hw; have H1 := Lib.hid hm1; clear hw h1 hm1
    go_wp2
    · have hz : m / 256 = 0 := by simpa using ‹(m / 256 == 0) = true›
      rw [Exit.noGoto_ret]; go_ret
      have := H.out; have := wd_end m hz
      exact ⟨ret_int (by omega), rfl⟩
    · have hz : m / 256 ≠ 0 := by simpa using ‹(m / 256 == 0) = false›
      have := H.out; have := wd_step m hm0 H1.out hz; have := wd_bd (m/256); have := wd_bd n; have := H1.out
      go_roundg (gk - 1)
      case rel => exact ⟨m / 256, k + 1, rfl, by go_num, by omega, by omega, by omega, by omega, by omega, by omega, rfl⟩
      case measure => omega

set_option maxRecDepth 100000 in
set_option maxHeartbeats 1600000 in
theorem len_any (n : Int) (w : World) (h0 : 0 ≤ n) (h1 : n < 18446744073709551616) :
    Calls Tryd.prog 89 #[.int .u64 n] w fun e w' => e = .returned (.int .i64 (lenOf n)) ∧ w = w' := by
  have := wd_bd n
  have H1 := Lib.hid h1; clear h1
  by_cases h : n < 248
  · rw [lenOf_small n h]
    go_enter Tryd.func89, Tryd.ntmps89
    go_wp2
    go_ret
    exact ⟨rfl, rfl⟩
  · rw [lenOf_big n h]
    go_enter Tryd.func89, Tryd.ntmps89
    go_wp2_with (go_at_call 65; refine (width_any _ _ h0 H1.out).mono ?_; rintro e w' ⟨rfl, rfl⟩)
    go_ret
    exact ⟨rfl, rfl⟩

set_option maxRecDepth 100000 in
set_option maxHeartbeats 1600000 in
theorem put_small (n : Int) (w : World) (h0 : 0 ≤ n) (h1 : n < 248) :
    Calls Tryd.prog 48 #[.int .u64 n] w fun e w' => e = .returned (.string ⟨(putL n).toArray⟩) ∧ Below w.heap.size w w' := by
  have hc := run_convert_bytes_back (P := Tryd.prog) (w.alloc (.cells #[.int .u8 n] 5)) 75 9 5 ⟨w.heap.size, 0, none⟩ 1 (putL n) Tryd.underlying75 Tryd.underlying5 Tryd.underlying9
    (by rw [putL_small n h1]; intro j hj; simp at hj; subst hj; rw [Addr.add_lit, World.cell?_alloc_mark]; simp; omega)
  rw [show (putL n).length = 1 by rw [putL_small n h1]; rfl] at hc
  go_enter Tryd.func48, Tryd.ntmps48
  go_wp2
  go_ret
  exact ⟨rfl, (Below.refl _ _).alloc (Nat.le_refl _) _⟩

theorem info_u8 : (Tryd.prog.info? 5).map (fun i => (i.zero, i.size, i.bytes)) = some (some (.int .u8 0), 1, 1) := by kernel_rfl

def bs (l : List UInt8) : List Value := l.map fun b => .int .u8 (b.toNat : Int)

theorem byte_at (n : Int) (h : 0 ≤ n) (j : Nat) : n / 2 ^ (8 * j) % 256 = ((UInt8.ofNat (n.toNat / 256 ^ j)).toNat : Int) := by
  obtain ⟨m, rfl⟩ := Int.eq_ofNat_of_zero_le h
  rw [Int.toNat_natCast, UInt8.toNat_ofNat', show (2 : Int) ^ (8 * j) = ((256 ^ j : Nat) : Int) by rw [Int.pow_mul]; norm_cast, show (2 : Nat) ^ 8 = 256 from rfl, Int.natCast_emod, Int.natCast_ediv]
  rfl
theorem u8_head (k : Nat) (h : k ≤ 8) : (247 + (k : Int)) = ((UInt8.ofNat (247 + k)).toNat : Int) := by
  rw [UInt8.toNat_ofNat']; omega
theorem be_snoc (n k i : Nat) (h : i < k) : be (i + 1) (n / 256 ^ (k - (i + 1))) = be i (n / 256 ^ (k - i)) ++ [UInt8.ofNat (n / 256 ^ (k - 1 - i))] := by
  rw [be]
  have e1 : k - (i + 1) = k - 1 - i := by omega
  have e2 : k - i = (k - 1 - i) + 1 := by omega
  rw [e1, e2, Nat.pow_succ, Nat.div_div_eq_div_mul]
theorem bs_at {l : List UInt8} {j : Nat} (hj : j < l.length) : (bs l)[j]? = some (.int .u8 (l[j].toNat : Int)) := by
  simp [bs, List.getElem?_eq_getElem hj]
set_option maxRecDepth 100000 in
set_option maxHeartbeats 1600000 in
theorem put_big (n : Int) (w : World) (h0 : 248 ≤ n) (h1 : n < 18446744073709551616) :
    Calls Tryd.prog 48 #[.int .u64 n] w fun e w' => e = .returned (.string ⟨(putL n).toArray⟩) ∧ Below w.heap.size w w' := by
  obtain ⟨i0, hi, hz0, hz1, hz2⟩ := info_parts info_u8
  obtain ⟨hk1, hk8⟩ := wd_bd n
  have H1 := Lib.hid h1; clear h1
  obtain ⟨k, hk⟩ : ∃ k : Nat, (k : Int) = wd n := ⟨(wd n).toNat, by omega⟩
  rw [← hk] at hk1 hk8
  have HK := Lib.hid hk; clear hk
  go_enter Tryd.func48, Tryd.ntmps48
  go_wp2_with (first
    | (go_at_call 65; refine (width_any _ _ (by omega) H1.out).mono ?_; rintro e w' ⟨rfl, rfl⟩; rw [← HK.out])
    | (at_make; go_loud (refine wpList_make_own _ rfl (.const (.int .i64 0)) (.tmp 15) 75 rfl w.heap.size 5 i0 (.int .u8 0) 1 Tryd.underlying75 hi hz0 hz1 .i64 .i64 (1 + (k : Int)) (k + 1) rfl rfl (by omega) (by rw [hz2]; omega) (by unfold maxLen; omega) (Nat.le_refl _) ?_); intro w1 hown1 hgr1)
    | (at_builtin; refine wpList_append_fits _ rfl (.tmp 17) (.tmp 21) 75 rfl w.heap.size 5 i0 1 Tryd.underlying75 hi hz1 w.heap.size 0 (k+1) [] rfl (hown1.alloc _) ⟨w1.heap.size, 0, none⟩ 1 1 [.int .u8 (247 + (k : Int))] rfl rfl (one_cell _ _ _) (by simp [Value.oneCell']) (by omega) ?_; intro w2 hown2 hgr2))
  have B1 : Below w.heap.size w w2 := ((((Below.refl _ _).grown hgr1 (Nat.le_refl _) (by intro k h; cases h)).alloc (by have := hgr1.size; simpa using this) _).grown hgr2 (by have := hgr1.size; simp; omega) (by intro k h; cases h; exact Nat.le_refl _))
  go_loopg [4, 24] (k + 1) (fun g s4 s24 wr => ∃ i : Nat, s4 = .slice (some ⟨w.heap.size, 0, none⟩) (i + 1) (k + 1) ∧ s24 = .int .i64 i ∧ i ≤ k ∧ i + g ≤ k + 1 ∧ k + 1 ≤ i + g ∧ 1 ≤ g ∧
    wr.ownsRow w.heap.size 5 1 s4 (i + 1) (bs (UInt8.ofNat (247 + k) :: be i (n.toNat / 256 ^ (k - i)))) ∧ Below w.heap.size w wr)
  case atStart => exact ⟨0, rfl, rfl, by omega, by omega, by omega, by omega, by have := hown2; rw [u8_head k (by omega)] at this; exact this, B1⟩
  case round =>
    clear hown2 hown1 hgr1 hgr2 B1
    obtain ⟨i, rfl, rfl, hik, hg1, hg2, hg3, hown, hbel⟩ := hrel
    have hsz := hbel.size
    have HO := Lib.hid hown; clear hown
    by_cases hlt : i < k
    · go_wp2_with (at_builtin; refine wpList_append_fits _ rfl (.tmp 27) (.tmp 36) 75 rfl w.heap.size 5 i0 1 Tryd.underlying75 hi hz1 w.heap.size (i + 1) (k+1) _ rfl (HO.out.alloc _) ⟨wr.heap.size, 0, none⟩ 1 1 [.int .u8 (n / 2 ^ (8 * (k - 1 - i)) % 256)] rfl rfl (one_cell _ _ _) (by simp [Value.oneCell']) (by omega) ?_; intro w3 hown3 hgr3)
      have hown4 := hown3
      rw [byte_at n (by omega)] at hown4
      have e : bs (UInt8.ofNat (247 + k) :: be i (n.toNat / 256 ^ (k - i))) ++ [.int .u8 ((UInt8.ofNat (n.toNat / 256 ^ (k - 1 - i))).toNat : Int)] = bs (UInt8.ofNat (247 + k) :: be (i + 1) (n.toNat / 256 ^ (k - (i + 1)))) := by
        rw [be_snoc _ _ _ hlt]; simp [bs]
      rw [e] at hown4
      clear hown3
      go_roundg (gk - 1)
      case rel => exact ⟨i + 1, rfl, by go_num, by omega, by omega, by omega, by omega, hown4, (hbel.alloc hsz _).grown hgr3 (by simp; omega) (by intro k h; cases h; exact Nat.le_refl _)⟩
      case measure => omega
    · obtain rfl : k = i := by omega
      have hl : (putL n).length = k + 1 := by rw [putL_big n (by omega)]; have := HK.out; simp [be_len]; omega
      have he : putL n = UInt8.ofNat (247 + k) :: be k (n.toNat / 256 ^ (k - k)) := by
        rw [putL_big n (by omega), ← HK.out, show (247 + (k : Int)).toNat = 247 + k by omega, Int.toNat_natCast, Nat.sub_self, Nat.pow_zero, Nat.div_one]
      have HO2 := HO.out
      rw [← he] at HO2
      have hc := run_convert_bytes_back (P := Tryd.prog) wr 75 9 5 ⟨w.heap.size, 0, none⟩ (k + 1) (putL n) Tryd.underlying75 Tryd.underlying5 Tryd.underlying9
        (by intro j hj; exact HO2.cells (g := w.heap.size) rfl j _ (bs_at hj))
      rw [hl] at hc
      have hb1 := wd_bd n
      clear HO HO2 he hl
      go_wp2
      go_ret
      exact ⟨rfl, hbel⟩

theorem put_any (n : Int) (w : World) (h0 : 0 ≤ n) (h1 : n < 18446744073709551616) :
    Calls Tryd.prog 48 #[.int .u64 n] w fun e w' => e = .returned (.string ⟨(putL n).toArray⟩) ∧ Below w.heap.size w w' := by
  by_cases h : n < 248
  · exact put_small n w h0 h
  · exact put_big n w (by omega) h1
end Go.Proofs.YtfiplhnplmadmaaDoor
