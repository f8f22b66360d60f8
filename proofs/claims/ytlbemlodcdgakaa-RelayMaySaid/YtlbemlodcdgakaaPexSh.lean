/- Steps of a walk over known slots: what a frame's slots hold is kept as a list; each operation, branch and loop by one law. Conditions: none. -/
import Derived.Test.YtlbemlodcdgakaaLibSh
import Derived.Deep.MidRow
import Derived.Deep.RegionHeld3
import Derived.Deep.LoopGhost
namespace Go.Proofs.Ytlbemlodcdgakaa
open Go.RowKit

section
variable {P : Program} {n : Nat} {m : List (Nat × Value)} {a : Act} {w : World}

/-- What is known of a frame: its size, that nothing is deferred, what some of its slots hold. -/
structure Slots (n : Nat) (m : List (Nat × Value)) (a : Act) : Prop where
  size : a.tmps.size = n
  defers : a.defers = []
  look : ∀ t v, m.lookup t = some v → a.tmps.getD t undef = v

def ev (m : List (Nat × Value)) : Operand → Option Value
  | .tmp t => m.lookup t
  | .const v => some v
  | .global g => some (.pointer (some ⟨g, 0, none⟩))
  | .func f => some (.func (.func f) #[] #[])
theorem Slots.ev (h : Slots n m a) {x : Operand} {v : Value} (hx : ev m x = some v) : a.eval x = v := by
  cases x with
  | tmp t => exact h.look t v hx
  | const u => simpa [Go.Proofs.Ytlbemlodcdgakaa.ev, Act.eval] using hx
  | global g => simpa [Go.Proofs.Ytlbemlodcdgakaa.ev, Act.eval] using hx
  | func f => simpa [Go.Proofs.Ytlbemlodcdgakaa.ev, Act.eval] using hx
def lk (m : List (Nat × Value)) (x : Operand) : Value := (ev m x).getD undef
def okOps (m : List (Nat × Value)) (o : Op) : Bool := o.operands.all fun x => (ev m x).isSome
theorem Slots.lk (h : Slots n m a) {x : Operand} (hx : (Go.Proofs.Ytlbemlodcdgakaa.ev m x).isSome = true) : a.eval x = lk m x := by
  obtain ⟨v, hv⟩ := Option.isSome_iff_exists.1 hx
  rw [h.ev hv]; simp [Go.Proofs.Ytlbemlodcdgakaa.lk, hv]
theorem Slots.put {d : Nat} {v : Value} (h : Slots n m a) (hd : d < n) : Slots n ((d, v) :: m) (a.put (some d) v) := by
  obtain ⟨h1, h2, h3⟩ := h
  refine ⟨by simp [Act.put, h1], h2, fun t u ht => ?_⟩
  rw [List.lookup_cons] at ht
  by_cases e : t = d
  · subst e
    simp at ht
    subst ht
    simp [Act.put, h1, hd]
  · have : (t == d) = false := by simpa using e
    rw [this] at ht
    have := h3 t u ht
    simp only [Act.put, Array.getD_eq_getD_getElem?] at this ⊢
    rw [Array.getElem?_setIfInBounds_ne (by omega)]
    exact this
/-- Less is known. -/
def Sub (m : List (Nat × Value)) : List (Nat × Value) → Prop
  | [] => True
  | p :: r => m.lookup p.1 = some p.2 ∧ Sub m r
theorem slot_eq {m : List (Nat × Value)} {t : Nat} {v v' : Value} (h : m.lookup t = some v) (e : v = v') : m.lookup (t, v').1 = some (t, v').2 := by subst e; exact h
theorem Sub.get {m : List (Nat × Value)} : ∀ {l : List (Nat × Value)}, Sub m l → ∀ t v, l.lookup t = some v → m.lookup t = some v
  | [], _, t, v, h => by simp at h
  | p :: r, hs, t, v, h => by
    rw [List.lookup_cons] at h
    by_cases e : t = p.1
    · subst e; simp at h; subst h; exact hs.1
    · have : (t == p.1) = false := by simpa using e
      rw [this] at h
      exact hs.2.get t v h
theorem Slots.sub {l : List (Nat × Value)} (h : Slots n m a) (hs : Sub m l) : Slots n l a := ⟨h.size, h.defers, fun t v ht => h.look t v (hs.get t v ht)⟩
theorem Slots.none {dst : Option Tmp} {v : Value} (h : Slots n m a) (hd : dst = none) : Slots n m (a.put dst v) := by subst hd; exact h

/-- Operation o, in a frame of which m is known and in world w: its value and the world behind it. -/
def Op1 (P : Program) (n : Nat) (m : List (Nat × Value)) (o : Oper) (w : World) (R : Value → World → Prop) : Prop :=
  ∀ a, Slots n m a → ∀ (N : Act → World → Prop) (Q : Exit → Act → World → Prop), (∀ v w', R v w' → N (a.put o.dst v) w') → o.wp P a w N Q

variable {o : Oper} {ops : Array Oper} {rest : List Oper} {Q : Exit → Act → World → Prop} {R : Value → World → Prop}
theorem op_run {v : Value} {w' : World} (hok : okOps m o.op = true) (hsel : (match o.op with | .select .. => true | _ => false) = false) (hrun : (execOp (lk m) o).run P w = .ok (.value v) w') : Op1 P n m o w (fun u x => u = v ∧ x = w') := by
  intro a ha N Q h
  have he : execOp a.eval o = execOp (lk m) o := execOp_congr o (fun cs b e => by simp [e] at hsel) (fun x hx => ha.lk (Array.all_eq_true_iff_forall_mem.1 hok x hx))
  unfold Oper.wp
  rw [he, hrun]
  exact h _ _ ⟨rfl, rfl⟩
theorem Op1.mono {R' : Value → World → Prop} (h : Op1 P n m o w R) (hr : ∀ v w', R v w' → R' v w') : Op1 P n m o w R' := fun a ha N Q hN => h a ha N Q fun v w' hv => hN v w' (hr v w' hv)
/-- A call of a Go function. -/
theorem op_call {c : Call} {x : Operand} {f : FuncId} {args : Array Value} {E : Ending → World → Prop} (ho : o.op = .call c) (hc : c.callee = .value x) (hf : ev m x = some (.func (.func f) #[] #[]))
    (hok : okOps m o.op = true) (hargs : c.args.map (lk m) = args) (hcall : (callFunc f args).run P w = .ok (.enter f args) w) (h : Calls P f args w E) (hE : ∀ e w', E e w' → ∃ v, e = .returned v ∧ R v w') : Op1 P n m o w R := by
  intro a ha N Q hN
  have he : execOp a.eval o = execOp (lk m) o := execOp_congr o (fun cs b e => by simp [e] at ho) (fun x hx => ha.lk (Array.all_eq_true_iff_forall_mem.1 hok x hx))
  unfold Oper.wp
  rw [he]
  have hfx : lk m x = .func (.func f) #[] #[] := by simp [lk, hf]
  have : (execOp (lk m) o).run P w = .ok (.enter f args) w := by
    simp only [execOp, ho, resolve, hc, hfx, Deferred.ofValue, hargs, Sem.run_bind, Sem.run_pure, Result.andThen_ok, invoke]
    simpa using hcall
  rw [this, Oper.upon_enter]
  refine h.mono fun e w' he => ?_
  obtain ⟨v, rfl, hv⟩ := hE e w' he
  exact hN v w' hv
theorem lk_ev {x : Operand} {v : Value} (hx : ev m x = some v) : lk m x = v := by simp [lk, hx]
/-- One cell is loaded. -/
theorem rn_load1 {t : TypeId} {x : Operand} {p : Addr} {v : Value} (ho : o.op = .load t x) (hx : ev m x = some (.pointer (some p))) (ht : ∀ w : World, (isAgg t).run P w = .ok false w) (hc : w.cell? p = some v) : (execOp (lk m) o).run P w = .ok (.value v) w := by
  unfold execOp
  have hl : (Instr.loadAt t (.pointer (some p))).run P w = .ok v w := by
    simp [Instr.loadAt, Instr.sureAddr, loadVar, ht, Sem.run_bind, load, Sem.run, hc]
  simp only [ho, lk_ev hx, Sem.run_bind, hl, Result.andThen_ok, Sem.run_pure]
/-- Several cells are loaded. -/
theorem rn_loadN {t : TypeId} {x : Operand} {b o' : Nat} {cs : List Value} {d : TypeDesc} (ho : o.op = .load t x) (hx : ev m x = some (.pointer (some ⟨b, o', none⟩))) (hu : P.underlying t = some d) (hd : d.isRow = true) (hi : (P.info? t).map (·.size) = some cs.length) (hc : w.rangeAt b o' cs) : (execOp (lk m) o).run P w = .ok (.value (.agg cs.toArray)) w := by
  unfold execOp
  simp only [ho, lk_ev hx, Instr.loadAt, Instr.sureAddr, Sem.run_bind, Sem.run_pure, Result.andThen_ok, run_loadVar_mid w b o' t cs d hc hu hd hi]
/-- An int's sum, difference, product that is in range. -/
theorem rn_arith {op : BinOp} {T T' : TypeId} {x y : Operand} {k : IntKind} {i j z : Int} (ho : o.op = .binOp op T x y T') (hx : ev m x = some (.int k i)) (hy : ev m y = some (.int k j)) (hop : Op.intArith op k i j = .pure (.int k (k.wrap z))) (hne : (op matches .shl | .shr | .eql | .neq) = false) (hcl : binOp op T (.int k i) (.int k j) = Op.intArith op k i j) (hz : k.wrap z = z) : (execOp (lk m) o).run P w = .ok (.value (.int k z)) w := by
  unfold execOp
  have hg : (eqGuard op T x y (.int k i) (.int k j)).run P w = .ok () w := by
    unfold eqGuard
    cases op <;> simp at hne <;> rfl
  simp only [ho, lk_ev hx, lk_ev hy, Sem.run_bind, hg, hcl, hop, hz, Result.andThen_ok]
  rfl

theorem rn_arith' {op : BinOp} {T T' : TypeId} {x y : Operand} {k : IntKind} {i j z z' : Int} (ho : o.op = .binOp op T x y T') (hx : ev m x = some (.int k i)) (hy : ev m y = some (.int k j)) (hop : Op.intArith op k i j = .pure (.int k (k.wrap z))) (hne : (op matches .shl | .shr | .eql | .neq) = false) (hcl : binOp op T (.int k i) (.int k j) = Op.intArith op k i j) (hz : k.wrap z = z) (he : z = z') : (execOp (lk m) o).run P w = .ok (.value (.int k z')) w := by
  subst he; exact rn_arith ho hx hy hop hne hcl hz
theorem rn_conv {S' T : TypeId} {x : Operand} {k k' : IntKind} {i : Int} {d : TypeDesc} (ho : o.op = .convert S' T x) (hx : ev m x = some (.int k' i)) (hS : P.underlying S' = some d) (ht : P.underlying T = some (.int k)) (hz : k.wrap i = i) : (execOp (lk m) o).run P w = .ok (.value (.int k i)) w := by
  unfold execOp
  simp only [ho, lk_ev hx, convert, Sem.run_bind, run_underlying hS, run_underlying ht, Result.andThen_ok]
  cases d <;> simp [Conv.intToInt, hz]
section minmax
variable {ts : Array TypeId} {x y : Operand} {k : IntKind} {i j : Int}
end minmax

/-! ### A plain region -/
theorem pl_nil (h : Q .normal a w) : wpList P ops Q [] a w := h
theorem getD_some {tmps : Array Value} {t : Nat} {b : Bool} (h : tmps.getD t undef = .bool b) : tmps[t]? = some (.bool b) := by
  rw [Array.getD_eq_getD_getElem?] at h
  cases hx : tmps[t]? with
  | none => rw [hx] at h; simp [undef] at h
  | some u => rw [hx] at h; simp at h; rw [h]
/-- Is a guarded operation wanted? -/
def wantB (m : List (Nat × Value)) (ops : Array Oper) (o : Oper) : Option Bool :=
  match o.guard with
  | none => some true
  | some (g, b) => match ((ops[g]?).bind (·.dst)).bind (m.lookup ·) with
    | some (.bool c) => some (c == b)
    | some (.tuple _) => some false
    | _ => none
theorem Slots.wants {c : Bool} (hs : Slots n m a) (h : wantB m ops o = some c) : Region.wanted o (yielded ops a.tmps) = c := by
  unfold wantB at h
  unfold Region.wanted
  cases hg : o.guard with
  | none => rw [hg] at h; simpa using h
  | some p =>
    obtain ⟨g, b⟩ := p
    rw [hg] at h
    simp only at h ⊢
    cases hd : (ops[g]?).bind (·.dst) with
    | none => rw [hd] at h; simp at h
    | some d =>
      rw [hd] at h
      simp only [Option.bind_some] at h
      cases hm : m.lookup d with
      | none => rw [hm] at h; simp at h
      | some u =>
        rw [hm] at h
        cases u <;> simp at h
        · rename_i q
          have := getD_some (hs.look d _ hm)
          simp [yielded, hd, this, h]
        · rename_i q
          subst h
          have h1 := hs.look d _ hm
          rw [Array.getD_eq_getD_getElem?] at h1
          have h2 : yielded ops a.tmps g = Option.none := by
            unfold yielded
            rw [hd]
            simp only [Option.bind_some]
            cases hx : a.tmps[d]? with
            | none => rfl
            | some u => rw [hx] at h1; simp at h1; subst h1; rfl
          rw [h2]; rfl
theorem pl_want {d : Nat} (hs : Slots n m a) (hg : wantB m ops o = some true) (hd : o.dst = some d) (hdn : Nat.blt d n = true) (h1 : Op1 P n m o w R)
    (h : ∀ v w' a', R v w' → Slots n ((d, v) :: m) a' → wpList P ops Q rest a' w') : wpList P ops Q (o :: rest) a w :=
  wpList_step fun K hK => by
    rw [if_pos (hs.wants hg)]
    exact h1 a hs K Q fun v w' hv => hK _ _ (h v w' _ hv (by rw [hd]; exact hs.put (by simpa using hdn)))
theorem pl_doW (hs : Slots n m a) (hg : wantB m ops o = some true) (hd : o.dst = none) (h1 : Op1 P n m o w R)
    (h : ∀ v w' a', R v w' → Slots n m a' → wpList P ops Q rest a' w') : wpList P ops Q (o :: rest) a w :=
  wpList_step fun K hK => by
    rw [if_pos (hs.wants hg)]
    exact h1 a hs K Q fun v w' hv => hK _ _ (h v w' _ hv (hs.none hd))
theorem pl_skip {d : Nat} (hs : Slots n m a) (hg : wantB m ops o = some false) (hd : o.dst = some d) (hdn : Nat.blt d n = true)
    (h : ∀ a', Slots n ((d, undef) :: m) a' → wpList P ops Q rest a' w) : wpList P ops Q (o :: rest) a w :=
  wpList_step fun K hK => by
    rw [if_neg (by simp [hs.wants hg])]
    exact hK _ _ (h _ (by rw [hd]; exact hs.put (by simpa using hdn)))

/-- An operation that leaves the world as it is. -/
theorem pl_val {d : Nat} {v : Value} (hs : Slots n m a) (hg : wantB m ops o = some true) (hd : o.dst = some d) (hdn : Nat.blt d n = true) (hok : okOps m o.op = true) (hsel : (match o.op with | .select .. => true | _ => false) = false) (hrun : (execOp (lk m) o).run P w = .ok (.value v) w)
    (h : ∀ a', Slots n ((d, v) :: m) a' → wpList P ops Q rest a' w) : wpList P ops Q (o :: rest) a w :=
  pl_want hs hg hd hdn (op_run hok hsel hrun) fun _ _ a' ⟨h1, h2⟩ hs' => by subst h1 h2; exact h a' hs'
/-! ### A region that draws its order -/
variable {md : Region.Mode} {S : World → Prop} {fuel : Nat} {listed : Array Bool} {i d : Nat}
abbrev NP (Q : Exit → Act → World → Prop) := NoPanic Q
theorem dr_start {id : Nat} {l : List Oper} (hm : P.follows .mixedOrders = true) (hS : S w.drew) (h : wpAnyH P .any l.toArray (NP Q) S l.length (Array.replicate l.length false) a w.drew) : (Code.region id l.toArray true).wp P Q a w :=
  wp_region_noPanic (wp_region_held_drew (S := S) hm hS fun _ => by simpa using h)
/-- Number i, which yields v in every world that meets S, is taken first. -/
theorem dr_take {v : Value} (hs : Slots n m a) (ho : ops[i]? = some o) (hsel : Region.noSelect ops = true) (hf : Region.free md ops listed i = true) (hr : (Region.ready md ops listed).contains i = true)
    (hw : wantB m ops o = some true) (hd : o.dst = some d) (hdn : Nat.blt d n = true) (hS : S w) (hok : okOps m o.op = true) (hrun : ∀ w, S w → (execOp (lk m) o).run P w = .ok (.value v) w)
    (h : ∀ a', Slots n ((d, v) :: m) a' → wpAnyH P md ops (NP Q) S fuel (listed.setIfInBounds i true) a' w) : wpAnyH P md ops (NP Q) S (fuel + 1) listed a w := by
  have he : execOp a.eval o = execOp (lk m) o := execOp_congr o (fun cs b e => Region.noSelect_spec hsel i o cs b ho e) (fun x hx => hs.lk (Array.all_eq_true_iff_forall_mem.1 hok x hx))
  refine wpAnyH_take ho hsel hf hr (fun _ _ _ h => h) (Or.inl ⟨hs.wants hw, fun w' hw' => by rw [he]; exact hrun w' hw'⟩) hS ?_
  exact h _ (by rw [hd]; exact hs.put (by simpa using hdn))
/-- Number i, which is not wanted. -/
theorem dr_skip (hs : Slots n m a) (ho : ops[i]? = some o) (hsel : Region.noSelect ops = true) (hf : Region.free md ops listed i = true) (hr : (Region.ready md ops listed).contains i = true)
    (hw : wantB m ops o = some false) (hd : o.dst = some d) (hdn : Nat.blt d n = true) (hS : S w)
    (h : ∀ a', Slots n ((d, undef) :: m) a' → wpAnyH P md ops (NP Q) S fuel (listed.setIfInBounds i true) a' w) : wpAnyH P md ops (NP Q) S (fuel + 1) listed a w := by
  refine wpAnyH_take ho hsel hf hr (fun _ _ _ h => h) (Or.inr ⟨hs.wants hw, rfl⟩) hS ?_
  exact h _ (by rw [hd]; exact hs.put (by simpa using hdn))
/-- Number i alone may come up. -/
theorem dr_one (hs : Slots n m a) (ho : ops[i]? = some o) (hr : Region.ready md ops listed = [i]) (hw : wantB m ops o = some true) (hd : o.dst = some d) (hdn : Nat.blt d n = true) (h1 : Op1 P n m o w R) (hS : ∀ v w', R v w' → S w')
    (h : ∀ v w' a', R v w' → Slots n ((d, v) :: m) a' → wpAnyH P md ops (NP Q) S fuel (listed.setIfInBounds i true) a' w') : wpAnyH P md ops (NP Q) S (fuel + 1) listed a w := by
  refine wpAnyH_all hr (by simp) fun j hj => ?_
  simp only [List.mem_singleton] at hj
  subst hj
  unfold wpOp
  simp only [ho, hs.wants hw, if_true]
  exact .inl (h1 a hs _ _ fun v w' hv => ⟨hS v w' hv, h v w' _ hv (by rw [hd]; exact hs.put (by simpa using hdn))⟩)
theorem dr_oneDo (hs : Slots n m a) (ho : ops[i]? = some o) (hr : Region.ready md ops listed = [i]) (hw : wantB m ops o = some true) (hd : o.dst = none) (h1 : Op1 P n m o w R) (hS : ∀ v w', R v w' → S w')
    (h : ∀ v w' a', R v w' → Slots n m a' → wpAnyH P md ops (NP Q) S fuel (listed.setIfInBounds i true) a' w') : wpAnyH P md ops (NP Q) S (fuel + 1) listed a w := by
  refine wpAnyH_all hr (by simp) fun j hj => ?_
  simp only [List.mem_singleton] at hj
  subst hj
  unfold wpOp
  simp only [ho, hs.wants hw, if_true]
  exact .inl (h1 a hs _ _ fun v w' hv => ⟨hS v w' hv, h v w' _ hv (hs.none hd)⟩)
theorem dr_done (hr : Region.ready md ops listed = []) (h : Q .normal a w) : wpAnyH P md ops (NP Q) S fuel listed a w := wpAnyH_done hr (NoPanic.normal h) fuel

/-! ### Code -/
theorem co_seq {x y : Code} (h : x.wp P (Exit.then (y.wp P Q) Q) a w) : (Code.seq x y).wp P Q a w := wp_seq h
theorem co_reg {id : Nat} {l : List Oper} (h : wpList P l.toArray Q l a w) : (Code.region id l.toArray false).wp P Q a w := wp_region_lit h
theorem co_then {K : Act → World → Prop} (h : K a w) : Exit.then K Q .normal a w := h
theorem co_true {c : Operand} {x y : Code} (hs : Slots n m a) (hc : ev m c = some (.bool true)) (h : x.wp P Q a w) : (Code.cond c x y).wp P Q a w := wp_cond_true (hs.ev hc) h
theorem co_false {c : Operand} {x y : Code} (hs : Slots n m a) (hc : ev m c = some (.bool false)) (h : y.wp P Q a w) : (Code.cond c x y).wp P Q a w := wp_cond_false (hs.ev hc) h
theorem co_loop {c : Code} (I : Nat → Act → World → Prop) (k : Nat) (h₀ : I k a w) (round : ∀ k a w, I k a w → c.wp P (Exit.then (fun a' w' => ∃ k', k' < k ∧ I k' a' w') Q) a w) : (Code.loop c).wp P Q a w := wp_loop_ghost I k h₀ round
theorem co_thenX {K : Act → World → Prop} {i : Nat} (h : Q (.exit i) a w) : Exit.then K Q (.exit i) a w := h
theorem co_thenR {K : Act → World → Prop} (h : Q .ret a w) : Exit.then K Q .ret a w := h
theorem co_blockN {i : Nat} (h : Q .normal a w) : Exit.inBlock i Q .normal a w := h
theorem co_blockX {i : Nat} (h : Q .normal a w) : Exit.inBlock i Q (.exit i) a w := by simpa [Exit.inBlock] using h
theorem co_blockR {i : Nat} (h : Q .ret a w) : Exit.inBlock i Q .ret a w := h
/-- The call begins. -/
theorem co_enter {f : FuncId} {fn : Func} {c : Code} {args : Array Value} {E : Ending → World → Prop} (hf : P.funcs[f]? = some fn) (hb : fn.body = some c) (hn : fn.ntmps = n) (hl : Nat.ble args.size n = true) (m : List (Nat × Value)) (hm : m = args.toList.zipIdx.map fun p => (p.2, p.1))
    (h : ∀ a, Slots n m a → c.wp P (bodyPost P fn E) a w) : Calls P f args w E := by
  have hl := Nat.le_of_ble_eq_true hl
  refine calls_of_wp hf hb (h _ ⟨by simp [hn]; omega, rfl, fun t v ht => ?_⟩)
  subst hm
  have hlk : ∀ (l : List Value) (k t : Nat) v, ((l.zipIdx k).map fun p => (p.2, p.1)).lookup t = some v → k ≤ t ∧ l[t - k]? = some v := by
    intro l
    induction l with
    | nil => intro k t v h; simp at h
    | cons x l ih =>
      intro k t v h
      rw [List.zipIdx_cons, List.map_cons, List.lookup_cons] at h
      by_cases e : t = k
      · subst e; simp at h; subst h; simp
      · have hb : (t == k) = false := by simpa using e
        rw [hb] at h
        obtain ⟨h1, h2⟩ := ih (k + 1) t v h
        refine ⟨by omega, ?_⟩
        rw [show t - k = (t - (k + 1)) + 1 by omega, List.getElem?_cons_succ]; exact h2
  obtain ⟨_, h2⟩ := hlk _ 0 t v ht
  simp only [Nat.sub_zero, Array.getElem?_toList] at h2
  rw [Array.getD_eq_getD_getElem?, Array.getElem?_append_left (Array.getElem?_eq_some_iff.1 h2).1, h2]; rfl
/-- The call ends. -/
theorem co_ret1 {fn : Func} {E : Ending → World → Prop} {t : Nat} {v : Value} (hs : Slots n m a) (hr : fn.results = #[.tmp t]) (ht : m.lookup t = some v) (h : E (.returned v) w) : bodyPost P fn E .ret a w := by
  have := hs.look t v ht
  exact bodyPost_ret (results_tmp hr a.tmps P w) hs.defers (by rw [this]; exact h)
theorem co_ret0n {fn : Func} {E : Ending → World → Prop} (hs : Slots n m a) (hr : fn.results = #[]) (h : E (.returned (.tuple #[])) w) : bodyPost P fn E .normal a w :=
  bodyPost_end (results_none hr a.tmps P w) hs.defers h
end
end Go.Proofs.Ytlbemlodcdgakaa
