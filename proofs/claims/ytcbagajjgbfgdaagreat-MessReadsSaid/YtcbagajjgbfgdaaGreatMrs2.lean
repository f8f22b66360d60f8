/- Put together: PexMrq, PexBMrq, PexCMrq, PexDMrq, ObjMrq, OpsAMrq, OpsBMrq, OpsCMrq, ObjBMrq, PexEMrq. Conditions: as each says. -/
import Derived.Test.YtcbagajjgbfgdaaGreatMrs1
import Derived.Deep.MidRow
import Derived.Deep.RegionHeld3
import Derived.Deep.LoopGhost
import Derived.Deep.AppendLies
import Derived.Deep.RegionLaw
import Derived.PlainAid
import Derived.Laws.StructEq
/- Steps of a walk over known slots: what a frame's slots hold is kept as a list; each operation, branch and loop by one law. Conditions: none. -/
namespace Go.Proofs.YtcbagajjgbfgdaaGreat
open Go.RowKit

section
variable {P : Program} {n : Nat} {m : List (Nat × Value)} {a : Act} {w : World}

/-- What is known of a frame: its size, that nothing is deferred, what some of its slots hold. -/
structure Slots (n : Nat) (m : List (Nat × Value)) (a : Act) : Prop where
  size : a.tmps.size = n
  defers : a.defers = []
  look : ∀ t v, m.lookup t = some v → a.tmps.getD t undef = v

def ev (m : List (Nat × Value)) : Operand → Option Value
  | .tmp t => m.lookup t
  | .const v => some v
  | .global g => some (.pointer (some ⟨g, 0, none⟩))
  | .func f => some (.func (.func f) #[] #[])
theorem Slots.ev (h : Slots n m a) {x : Operand} {v : Value} (hx : ev m x = some v) : a.eval x = v := by
  cases x with
  | tmp t => exact h.look t v hx
  | const u => simpa [Go.Proofs.YtcbagajjgbfgdaaGreat.ev, Act.eval] using hx
  | global g => simpa [Go.Proofs.YtcbagajjgbfgdaaGreat.ev, Act.eval] using hx
  | func f => simpa [Go.Proofs.YtcbagajjgbfgdaaGreat.ev, Act.eval] using hx
def lk (m : List (Nat × Value)) (x : Operand) : Value := (ev m x).getD undef
def okOps (m : List (Nat × Value)) (o : Op) : Bool := o.operands.all fun x => (ev m x).isSome
theorem Slots.lk (h : Slots n m a) {x : Operand} (hx : (Go.Proofs.YtcbagajjgbfgdaaGreat.ev m x).isSome = true) : a.eval x = lk m x := by
  obtain ⟨v, hv⟩ := Option.isSome_iff_exists.1 hx
  rw [h.ev hv]; simp [Go.Proofs.YtcbagajjgbfgdaaGreat.lk, hv]
theorem Slots.put {d : Nat} {v : Value} (h : Slots n m a) (hd : d < n) : Slots n ((d, v) :: m) (a.put (some d) v) := by
  obtain ⟨h1, h2, h3⟩ := h
  refine ⟨by simp [Act.put, h1], h2, fun t u ht => ?_⟩
  rw [List.lookup_cons] at ht
  by_cases e : t = d
  · subst e
    simp at ht
    subst ht
    simp [Act.put, h1, hd]
  · have : (t == d) = false := by simpa using e
    rw [this] at ht
    have := h3 t u ht
    simp only [Act.put, Array.getD_eq_getD_getElem?] at this ⊢
    rw [Array.getElem?_setIfInBounds_ne (by omega)]
    exact this
/-- Less is known. -/
def Sub (m : List (Nat × Value)) : List (Nat × Value) → Prop
  | [] => True
  | p :: r => m.lookup p.1 = some p.2 ∧ Sub m r
theorem slot_eq {m : List (Nat × Value)} {t : Nat} {v v' : Value} (h : m.lookup t = some v) (e : v = v') : m.lookup (t, v').1 = some (t, v').2 := by subst e; exact h
theorem Sub.get {m : List (Nat × Value)} : ∀ {l : List (Nat × Value)}, Sub m l → ∀ t v, l.lookup t = some v → m.lookup t = some v
  | [], _, t, v, h => by simp at h
  | p :: r, hs, t, v, h => by
    rw [List.lookup_cons] at h
    by_cases e : t = p.1
    · subst e; simp at h; subst h; exact hs.1
    · have : (t == p.1) = false := by simpa using e
      rw [this] at h
      exact hs.2.get t v h
theorem Slots.sub {l : List (Nat × Value)} (h : Slots n m a) (hs : Sub m l) : Slots n l a := ⟨h.size, h.defers, fun t v ht => h.look t v (hs.get t v ht)⟩
theorem Slots.none {dst : Option Tmp} {v : Value} (h : Slots n m a) (hd : dst = none) : Slots n m (a.put dst v) := by subst hd; exact h

/-- Operation o, in a frame of which m is known and in world w: its value and the world behind it. -/
def Op1 (P : Program) (n : Nat) (m : List (Nat × Value)) (o : Oper) (w : World) (R : Value → World → Prop) : Prop :=
  ∀ a, Slots n m a → ∀ (N : Act → World → Prop) (Q : Exit → Act → World → Prop), (∀ v w', R v w' → N (a.put o.dst v) w') → o.wp P a w N Q

variable {o : Oper} {ops : Array Oper} {rest : List Oper} {Q : Exit → Act → World → Prop} {R : Value → World → Prop}
theorem op_run {v : Value} {w' : World} (hok : okOps m o.op = true) (hsel : (match o.op with | .select .. => true | _ => false) = false) (hrun : (execOp (lk m) o).run P w = .ok (.value v) w') : Op1 P n m o w (fun u x => u = v ∧ x = w') := by
  intro a ha N Q h
  have he : execOp a.eval o = execOp (lk m) o := execOp_congr o (fun cs b e => by simp [e] at hsel) (fun x hx => ha.lk (Array.all_eq_true_iff_forall_mem.1 hok x hx))
  unfold Oper.wp
  rw [he, hrun]
  exact h _ _ ⟨rfl, rfl⟩
theorem Op1.mono {R' : Value → World → Prop} (h : Op1 P n m o w R) (hr : ∀ v w', R v w' → R' v w') : Op1 P n m o w R' := fun a ha N Q hN => h a ha N Q fun v w' hv => hN v w' (hr v w' hv)
/-- A call of a Go function. -/
theorem op_call {c : Call} {x : Operand} {f : FuncId} {args : Array Value} {E : Ending → World → Prop} (ho : o.op = .call c) (hc : c.callee = .value x) (hf : ev m x = some (.func (.func f) #[] #[]))
    (hok : okOps m o.op = true) (hargs : c.args.map (lk m) = args) (hcall : (callFunc f args).run P w = .ok (.enter f args) w) (h : Calls P f args w E) (hE : ∀ e w', E e w' → ∃ v, e = .returned v ∧ R v w') : Op1 P n m o w R := by
  intro a ha N Q hN
  have he : execOp a.eval o = execOp (lk m) o := execOp_congr o (fun cs b e => by simp [e] at ho) (fun x hx => ha.lk (Array.all_eq_true_iff_forall_mem.1 hok x hx))
  unfold Oper.wp
  rw [he]
  have hfx : lk m x = .func (.func f) #[] #[] := by simp [lk, hf]
  have : (execOp (lk m) o).run P w = .ok (.enter f args) w := by
    simp only [execOp, ho, resolve, hc, hfx, Deferred.ofValue, hargs, Sem.run_bind, Sem.run_pure, Result.andThen_ok, invoke]
    simpa using hcall
  rw [this, Oper.upon_enter]
  refine h.mono fun e w' he => ?_
  obtain ⟨v, rfl, hv⟩ := hE e w' he
  exact hN v w' hv
theorem lk_ev {x : Operand} {v : Value} (hx : ev m x = some v) : lk m x = v := by simp [lk, hx]
/-- One cell is loaded. -/
theorem rn_load1 {t : TypeId} {x : Operand} {p : Addr} {v : Value} (ho : o.op = .load t x) (hx : ev m x = some (.pointer (some p))) (ht : ∀ w : World, (isAgg t).run P w = .ok false w) (hc : w.cell? p = some v) : (execOp (lk m) o).run P w = .ok (.value v) w := by
  unfold execOp
  have hl : (Instr.loadAt t (.pointer (some p))).run P w = .ok v w := by
    simp [Instr.loadAt, Instr.sureAddr, loadVar, ht, Sem.run_bind, load, Sem.run, hc]
  simp only [ho, lk_ev hx, Sem.run_bind, hl, Result.andThen_ok, Sem.run_pure]
/-- Several cells are loaded. -/
theorem rn_loadN {t : TypeId} {x : Operand} {b o' : Nat} {cs : List Value} {d : TypeDesc} (ho : o.op = .load t x) (hx : ev m x = some (.pointer (some ⟨b, o', none⟩))) (hu : P.underlying t = some d) (hd : d.isRow = true) (hi : (P.info? t).map (·.size) = some cs.length) (hc : w.rangeAt b o' cs) : (execOp (lk m) o).run P w = .ok (.value (.agg cs.toArray)) w := by
  unfold execOp
  simp only [ho, lk_ev hx, Instr.loadAt, Instr.sureAddr, Sem.run_bind, Sem.run_pure, Result.andThen_ok, run_loadVar_mid w b o' t cs d hc hu hd hi]
/-- An int's sum, difference, product that is in range. -/
theorem rn_arith {op : BinOp} {T T' : TypeId} {x y : Operand} {k : IntKind} {i j z : Int} (ho : o.op = .binOp op T x y T') (hx : ev m x = some (.int k i)) (hy : ev m y = some (.int k j)) (hop : Op.intArith op k i j = .pure (.int k (k.wrap z))) (hne : (op matches .shl | .shr | .eql | .neq) = false) (hcl : binOp op T (.int k i) (.int k j) = Op.intArith op k i j) (hz : k.wrap z = z) : (execOp (lk m) o).run P w = .ok (.value (.int k z)) w := by
  unfold execOp
  have hg : (eqGuard op T x y (.int k i) (.int k j)).run P w = .ok () w := by
    unfold eqGuard
    cases op <;> simp at hne <;> rfl
  simp only [ho, lk_ev hx, lk_ev hy, Sem.run_bind, hg, hcl, hop, hz, Result.andThen_ok]
  rfl

theorem rn_arith' {op : BinOp} {T T' : TypeId} {x y : Operand} {k : IntKind} {i j z z' : Int} (ho : o.op = .binOp op T x y T') (hx : ev m x = some (.int k i)) (hy : ev m y = some (.int k j)) (hop : Op.intArith op k i j = .pure (.int k (k.wrap z))) (hne : (op matches .shl | .shr | .eql | .neq) = false) (hcl : binOp op T (.int k i) (.int k j) = Op.intArith op k i j) (hz : k.wrap z = z) (he : z = z') : (execOp (lk m) o).run P w = .ok (.value (.int k z')) w := by
  subst he; exact rn_arith ho hx hy hop hne hcl hz
section minmax
variable {ts : Array TypeId} {x y : Operand} {k : IntKind} {i j : Int}
end minmax

/-! ### A plain region -/
theorem pl_nil (h : Q .normal a w) : wpList P ops Q [] a w := h
theorem getD_some {tmps : Array Value} {t : Nat} {b : Bool} (h : tmps.getD t undef = .bool b) : tmps[t]? = some (.bool b) := by
  rw [Array.getD_eq_getD_getElem?] at h
  cases hx : tmps[t]? with
  | none => rw [hx] at h; simp [undef] at h
  | some u => rw [hx] at h; simp at h; rw [h]
/-- Is a guarded operation wanted? -/
def wantB (m : List (Nat × Value)) (ops : Array Oper) (o : Oper) : Option Bool :=
  match o.guard with
  | none => some true
  | some (g, b) => match ((ops[g]?).bind (·.dst)).bind (m.lookup ·) with
    | some (.bool c) => some (c == b)
    | some (.tuple _) => some false
    | _ => none
theorem Slots.wants {c : Bool} (hs : Slots n m a) (h : wantB m ops o = some c) : Region.wanted o (yielded ops a.tmps) = c := by
  unfold wantB at h
  unfold Region.wanted
  cases hg : o.guard with
  | none => rw [hg] at h; simpa using h
  | some p =>
    obtain ⟨g, b⟩ := p
    rw [hg] at h
    simp only at h ⊢
    cases hd : (ops[g]?).bind (·.dst) with
    | none => rw [hd] at h; simp at h
    | some d =>
      rw [hd] at h
      simp only [Option.bind_some] at h
      cases hm : m.lookup d with
      | none => rw [hm] at h; simp at h
      | some u =>
        rw [hm] at h
        cases u <;> simp at h
        · rename_i q
          have := getD_some (hs.look d _ hm)
          simp [yielded, hd, this, h]
        · rename_i q
          subst h
          have h1 := hs.look d _ hm
          rw [Array.getD_eq_getD_getElem?] at h1
          have h2 : yielded ops a.tmps g = Option.none := by
            unfold yielded
            rw [hd]
            simp only [Option.bind_some]
            cases hx : a.tmps[d]? with
            | none => rfl
            | some u => rw [hx] at h1; simp at h1; subst h1; rfl
          rw [h2]; rfl
theorem pl_want {d : Nat} (hs : Slots n m a) (hg : wantB m ops o = some true) (hd : o.dst = some d) (hdn : Nat.blt d n = true) (h1 : Op1 P n m o w R)
    (h : ∀ v w' a', R v w' → Slots n ((d, v) :: m) a' → wpList P ops Q rest a' w') : wpList P ops Q (o :: rest) a w :=
  wpList_step fun K hK => by
    rw [if_pos (hs.wants hg)]
    exact h1 a hs K Q fun v w' hv => hK _ _ (h v w' _ hv (by rw [hd]; exact hs.put (by simpa using hdn)))
theorem pl_doW (hs : Slots n m a) (hg : wantB m ops o = some true) (hd : o.dst = none) (h1 : Op1 P n m o w R)
    (h : ∀ v w' a', R v w' → Slots n m a' → wpList P ops Q rest a' w') : wpList P ops Q (o :: rest) a w :=
  wpList_step fun K hK => by
    rw [if_pos (hs.wants hg)]
    exact h1 a hs K Q fun v w' hv => hK _ _ (h v w' _ hv (hs.none hd))
theorem pl_skip {d : Nat} (hs : Slots n m a) (hg : wantB m ops o = some false) (hd : o.dst = some d) (hdn : Nat.blt d n = true)
    (h : ∀ a', Slots n ((d, undef) :: m) a' → wpList P ops Q rest a' w) : wpList P ops Q (o :: rest) a w :=
  wpList_step fun K hK => by
    rw [if_neg (by simp [hs.wants hg])]
    exact hK _ _ (h _ (by rw [hd]; exact hs.put (by simpa using hdn)))

/-- An operation that leaves the world as it is. -/
theorem pl_val {d : Nat} {v : Value} (hs : Slots n m a) (hg : wantB m ops o = some true) (hd : o.dst = some d) (hdn : Nat.blt d n = true) (hok : okOps m o.op = true) (hsel : (match o.op with | .select .. => true | _ => false) = false) (hrun : (execOp (lk m) o).run P w = .ok (.value v) w)
    (h : ∀ a', Slots n ((d, v) :: m) a' → wpList P ops Q rest a' w) : wpList P ops Q (o :: rest) a w :=
  pl_want hs hg hd hdn (op_run hok hsel hrun) fun _ _ a' ⟨h1, h2⟩ hs' => by subst h1 h2; exact h a' hs'
/-! ### A region that draws its order -/
variable {md : Region.Mode} {S : World → Prop} {fuel : Nat} {listed : Array Bool} {i d : Nat}
abbrev NP (Q : Exit → Act → World → Prop) := NoPanic Q
theorem dr_start {id : Nat} {l : List Oper} (hm : P.follows .mixedOrders = true) (hS : S w.drew) (h : wpAnyH P .any l.toArray (NP Q) S l.length (Array.replicate l.length false) a w.drew) : (Code.region id l.toArray true).wp P Q a w :=
  wp_region_noPanic (wp_region_held_drew (S := S) hm hS fun _ => by simpa using h)
/-- Number i, which yields v in every world that meets S, is taken first. -/
theorem dr_take {v : Value} (hs : Slots n m a) (ho : ops[i]? = some o) (hsel : Region.noSelect ops = true) (hf : Region.free md ops listed i = true) (hr : (Region.ready md ops listed).contains i = true)
    (hw : wantB m ops o = some true) (hd : o.dst = some d) (hdn : Nat.blt d n = true) (hS : S w) (hok : okOps m o.op = true) (hrun : ∀ w, S w → (execOp (lk m) o).run P w = .ok (.value v) w)
    (h : ∀ a', Slots n ((d, v) :: m) a' → wpAnyH P md ops (NP Q) S fuel (listed.setIfInBounds i true) a' w) : wpAnyH P md ops (NP Q) S (fuel + 1) listed a w := by
  have he : execOp a.eval o = execOp (lk m) o := execOp_congr o (fun cs b e => Region.noSelect_spec hsel i o cs b ho e) (fun x hx => hs.lk (Array.all_eq_true_iff_forall_mem.1 hok x hx))
  refine wpAnyH_take ho hsel hf hr (fun _ _ _ h => h) (Or.inl ⟨hs.wants hw, fun w' hw' => by rw [he]; exact hrun w' hw'⟩) hS ?_
  exact h _ (by rw [hd]; exact hs.put (by simpa using hdn))
/-- Number i, which is not wanted. -/
theorem dr_skip (hs : Slots n m a) (ho : ops[i]? = some o) (hsel : Region.noSelect ops = true) (hf : Region.free md ops listed i = true) (hr : (Region.ready md ops listed).contains i = true)
    (hw : wantB m ops o = some false) (hd : o.dst = some d) (hdn : Nat.blt d n = true) (hS : S w)
    (h : ∀ a', Slots n ((d, undef) :: m) a' → wpAnyH P md ops (NP Q) S fuel (listed.setIfInBounds i true) a' w) : wpAnyH P md ops (NP Q) S (fuel + 1) listed a w := by
  refine wpAnyH_take ho hsel hf hr (fun _ _ _ h => h) (Or.inr ⟨hs.wants hw, rfl⟩) hS ?_
  exact h _ (by rw [hd]; exact hs.put (by simpa using hdn))
/-- Number i alone may come up. -/
theorem dr_one (hs : Slots n m a) (ho : ops[i]? = some o) (hr : Region.ready md ops listed = [i]) (hw : wantB m ops o = some true) (hd : o.dst = some d) (hdn : Nat.blt d n = true) (h1 : Op1 P n m o w R) (hS : ∀ v w', R v w' → S w')
    (h : ∀ v w' a', R v w' → Slots n ((d, v) :: m) a' → wpAnyH P md ops (NP Q) S fuel (listed.setIfInBounds i true) a' w') : wpAnyH P md ops (NP Q) S (fuel + 1) listed a w := by
  refine wpAnyH_all hr (by simp) fun j hj => ?_
  simp only [List.mem_singleton] at hj
  subst hj
  unfold wpOp
  simp only [ho, hs.wants hw, if_true]
  exact .inl (h1 a hs _ _ fun v w' hv => ⟨hS v w' hv, h v w' _ hv (by rw [hd]; exact hs.put (by simpa using hdn))⟩)
theorem dr_oneDo (hs : Slots n m a) (ho : ops[i]? = some o) (hr : Region.ready md ops listed = [i]) (hw : wantB m ops o = some true) (hd : o.dst = none) (h1 : Op1 P n m o w R) (hS : ∀ v w', R v w' → S w')
    (h : ∀ v w' a', R v w' → Slots n m a' → wpAnyH P md ops (NP Q) S fuel (listed.setIfInBounds i true) a' w') : wpAnyH P md ops (NP Q) S (fuel + 1) listed a w := by
  refine wpAnyH_all hr (by simp) fun j hj => ?_
  simp only [List.mem_singleton] at hj
  subst hj
  unfold wpOp
  simp only [ho, hs.wants hw, if_true]
  exact .inl (h1 a hs _ _ fun v w' hv => ⟨hS v w' hv, h v w' _ hv (hs.none hd)⟩)
theorem dr_done (hr : Region.ready md ops listed = []) (h : Q .normal a w) : wpAnyH P md ops (NP Q) S fuel listed a w := wpAnyH_done hr (NoPanic.normal h) fuel

/-! ### Code -/
theorem co_seq {x y : Code} (h : x.wp P (Exit.then (y.wp P Q) Q) a w) : (Code.seq x y).wp P Q a w := wp_seq h
theorem co_reg {id : Nat} {l : List Oper} (h : wpList P l.toArray Q l a w) : (Code.region id l.toArray false).wp P Q a w := wp_region_lit h
theorem co_then {K : Act → World → Prop} (h : K a w) : Exit.then K Q .normal a w := h
theorem co_true {c : Operand} {x y : Code} (hs : Slots n m a) (hc : ev m c = some (.bool true)) (h : x.wp P Q a w) : (Code.cond c x y).wp P Q a w := wp_cond_true (hs.ev hc) h
theorem co_false {c : Operand} {x y : Code} (hs : Slots n m a) (hc : ev m c = some (.bool false)) (h : y.wp P Q a w) : (Code.cond c x y).wp P Q a w := wp_cond_false (hs.ev hc) h
theorem co_loop {c : Code} (I : Nat → Act → World → Prop) (k : Nat) (h₀ : I k a w) (round : ∀ k a w, I k a w → c.wp P (Exit.then (fun a' w' => ∃ k', k' < k ∧ I k' a' w') Q) a w) : (Code.loop c).wp P Q a w := wp_loop_ghost I k h₀ round
theorem co_thenX {K : Act → World → Prop} {i : Nat} (h : Q (.exit i) a w) : Exit.then K Q (.exit i) a w := h
theorem co_thenR {K : Act → World → Prop} (h : Q .ret a w) : Exit.then K Q .ret a w := h
theorem co_blockN {i : Nat} (h : Q .normal a w) : Exit.inBlock i Q .normal a w := h
theorem co_blockX {i : Nat} (h : Q .normal a w) : Exit.inBlock i Q (.exit i) a w := by simpa [Exit.inBlock] using h
theorem co_blockY {i j : Nat} (hne : i ≠ j) (h : Q (.exit i) a w) : Exit.inBlock j Q (.exit i) a w := by simpa [Exit.inBlock, hne] using h
theorem co_blockR {i : Nat} (h : Q .ret a w) : Exit.inBlock i Q .ret a w := h
theorem co_cut {x y : Code} (M : Act → World → Prop) (h1 : x.wp P (Exit.then M Q) a w) (h2 : ∀ a w, M a w → y.wp P Q a w) : (Code.seq x y).wp P Q a w :=
  wp_seq (Code.wp_mono (fun e a' w' q => by cases e <;> first | exact h2 _ _ q | exact q) h1)
/-- The call begins. -/
theorem q0 {K : Act → World → Prop} (h : K a w) : Code.skip.wp P (Exit.then K Q) a w := wp_skip h
theorem q1 {K : Act → World → Prop} (h : K a w) : wpList P ops (Exit.then K Q) [] a w := h
theorem q2 {id : Nat} {l : List Oper} {y : Code} (h : wpList P l.toArray (Exit.then (y.wp P Q) Q) l a w) : (Code.seq (Code.region id l.toArray false) y).wp P Q a w := co_seq (co_reg h)
theorem q9 {id : Nat} {l : List Oper} {y z : Code} (h : wpList P l.toArray (Exit.then (y.wp P (Exit.then (z.wp P Q) Q)) (Exit.then (z.wp P Q) Q)) l a w) : (Code.seq (Code.seq (Code.region id l.toArray false) y) z).wp P Q a w := co_seq (q2 h)
theorem q3 {Q' : Exit → Act → World → Prop} {id : Nat} {l : List Oper} {y : Code} (h : wpList P l.toArray (Exit.then (y.wp P Q) Q) l a w) : wpList P ops (Exit.then ((Code.seq (Code.region id l.toArray false) y).wp P Q) Q') [] a w := q1 (q2 h)
theorem q6 {Q' : Exit → Act → World → Prop} {id : Nat} {l : List Oper} {y z : Code} (h : wpList P l.toArray (Exit.then (y.wp P (Exit.then (z.wp P Q) Q)) (Exit.then (z.wp P Q) Q)) l a w) : wpList P ops (Exit.then ((Code.seq (Code.seq (Code.region id l.toArray false) y) z).wp P Q) Q') [] a w := q1 (q9 h)
theorem q7 {Q' : Exit → Act → World → Prop} {id : Nat} {l : List Oper} {y : Code} (h : wpList P l.toArray (Exit.then (y.wp P Q) Q) l a w) : Code.skip.wp P (Exit.then ((Code.seq (Code.region id l.toArray false) y).wp P Q) Q') a w := q0 (q2 h)
theorem q8 {Q' : Exit → Act → World → Prop} {id : Nat} {l : List Oper} {y z : Code} (h : wpList P l.toArray (Exit.then (y.wp P (Exit.then (z.wp P Q) Q)) (Exit.then (z.wp P Q) Q)) l a w) : Code.skip.wp P (Exit.then ((Code.seq (Code.seq (Code.region id l.toArray false) y) z).wp P Q) Q') a w := q0 (q9 h)
theorem q4 {Q' : Exit → Act → World → Prop} (h : Q .ret a w) : wpList P ops (Exit.then (Code.ret.wp P Q) Q') [] a w := q1 (wp_ret h)
theorem q5 {K : Act → World → Prop} {Q' : Exit → Act → World → Prop} (h : Q .ret a w) : wpList P ops (Exit.then (Code.ret.wp P (Exit.then K Q)) Q') [] a w := q4 h
theorem qr {K : Act → World → Prop} {i : Nat} (h : Q .ret a w) : Exit.inBlock i (Exit.then K Q) .ret a w := h
theorem qx {K : Act → World → Prop} {i : Nat} (h : K a w) : Exit.inBlock i (Exit.then K Q) (.exit i) a w := co_blockX h
theorem co_enter {f : FuncId} {fn : Func} {c : Code} {args : Array Value} {E : Ending → World → Prop} (hf : P.funcs[f]? = some fn) (hb : fn.body = some c) (hn : fn.ntmps = n) (hl : Nat.ble args.size n = true) (m : List (Nat × Value)) (hm : m = args.toList.zipIdx.map fun p => (p.2, p.1))
    (h : ∀ a, Slots n m a → c.wp P (bodyPost P fn E) a w) : Calls P f args w E := by
  have hl := Nat.le_of_ble_eq_true hl
  refine calls_of_wp hf hb (h _ ⟨by simp [hn]; omega, rfl, fun t v ht => ?_⟩)
  subst hm
  have hlk : ∀ (l : List Value) (k t : Nat) v, ((l.zipIdx k).map fun p => (p.2, p.1)).lookup t = some v → k ≤ t ∧ l[t - k]? = some v := by
    intro l
    induction l with
    | nil => intro k t v h; simp at h
    | cons x l ih =>
      intro k t v h
      rw [List.zipIdx_cons, List.map_cons, List.lookup_cons] at h
      by_cases e : t = k
      · subst e; simp at h; subst h; simp
      · have hb : (t == k) = false := by simpa using e
        rw [hb] at h
        obtain ⟨h1, h2⟩ := ih (k + 1) t v h
        refine ⟨by omega, ?_⟩
        rw [show t - k = (t - (k + 1)) + 1 by omega, List.getElem?_cons_succ]; exact h2
  obtain ⟨_, h2⟩ := hlk _ 0 t v ht
  simp only [Nat.sub_zero, Array.getElem?_toList] at h2
  rw [Array.getD_eq_getD_getElem?, Array.getElem?_append_left (Array.getElem?_eq_some_iff.1 h2).1, h2]; rfl
/-- The call ends. -/
theorem co_ret1 {fn : Func} {E : Ending → World → Prop} {t : Nat} {v : Value} (hs : Slots n m a) (hr : fn.results = #[.tmp t]) (ht : m.lookup t = some v) (h : E (.returned v) w) : bodyPost P fn E .ret a w := by
  have := hs.look t v ht
  exact bodyPost_ret (results_tmp hr a.tmps P w) hs.defers (by rw [this]; exact h)
theorem co_ret2 {fn : Func} {E : Ending → World → Prop} {t u : Nat} {v x : Value} (hs : Slots n m a) (hr : fn.results = #[.tmp t, .tmp u]) (ht : m.lookup t = some v) (hu : m.lookup u = some x) (h : E (.returned (.tuple #[v, x])) w) : bodyPost P fn E .ret a w := by
  have h1 := hs.look t v ht
  have h2 := hs.look u x hu
  exact bodyPost_ret (results_tmp2 hr a.tmps P w) hs.defers (by rw [h1, h2]; exact h)
theorem co_ret0n {fn : Func} {E : Ending → World → Prop} (hs : Slots n m a) (hr : fn.results = #[]) (h : E (.returned (.tuple #[])) w) : bodyPost P fn E .normal a w :=
  bodyPost_end (results_none hr a.tmps P w) hs.defers h
end
end Go.Proofs.YtcbagajjgbfgdaaGreat

/- Steps of a walk over known slots: blocks of the call's own, rows that grow, slices that came in. Conditions: none. -/
namespace Go.Proofs.YtcbagajjgbfgdaaGreat
open Go.RowKit

/-- Block N of world w holds just these cells, and may be written. -/
def Blk (w : World) (N : Nat) (T : TypeId) (cs : Array Value) : Prop := w.heap[N]? = some (.cells cs T (0, 0))
section
variable {P : Program} {n : Nat} {m : List (Nat × Value)} {w x : World} {o : Oper} {N : Nat} {T : TypeId} {cs : Array Value}
theorem Blk.lt (h : Blk w N T cs) : N < w.heap.size := (Array.getElem?_eq_some_iff.1 h).1
theorem Blk.cell (h : Blk w N T cs) {k : Nat} {v : Value} (hk : cs[k]? = some v) : w.cell? ⟨N, k, none⟩ = some v := by
  unfold World.cell?; rw [show w.heap[N]? = _ from h]; simpa using hk
theorem Blk.frozen (h : Blk w N T cs) (k : Nat) : w.frozen? ⟨N, k, none⟩ = false := by
  unfold World.frozen?; rw [show w.heap[N]? = _ from h]; simp
theorem Blk.range (h : Blk w N T cs) (k : Nat) (l : List Value) (hl : ∀ j v, l[j]? = some v → cs[k + j]? = some v) : w.rangeAt N k l := fun j v hv => h.cell (hl j v hv)
theorem Blk.all (h : Blk w N T cs) : w.rangeAt N 0 cs.toList := fun j v hv => h.cell (by simpa using hv)
theorem Blk.kept {row : Option Nat} (h : Blk w N T cs) (hg : w.grownBy x row) (hne : row ≠ some N) : Blk x N T cs := by
  unfold Blk at *; rw [hg.block N (Array.getElem?_eq_some_iff.1 h).1 (fun e => hne e.symm)]; exact h
theorem Blk.below (h : Blk w N T cs) (hb : Below w.heap.size w x) : Blk x N T cs := by
  unfold Blk at *; rw [hb.block N (Array.getElem?_eq_some_iff.1 h).1]; exact h
theorem grown_below (hg : w.grownBy x none) : Below w.heap.size w x := ⟨hg.os, hg.tape, hg.output, hg.size, fun k hk => hg.block k hk (by simp)⟩
theorem below_grown (hb : Below w.heap.size w x) : w.grownBy x none := ⟨hb.os, hb.tape, hb.output, hb.size, fun k hk _ => hb.block k hk⟩
theorem hb_new {w0 : World} (h : Below w0.heap.size w0 w) (hg : w.grownBy x none) : Below w0.heap.size w0 x := h.grown hg h.size (fun _ e => by cases e)
theorem hb_at {w0 : World} (h : Below w0.heap.size w0 w) (hg : w.grownBy x (some N)) (hN : w0.heap.size ≤ N) : Below w0.heap.size w0 x := h.grown hg h.size (fun k e => by cases e; exact hN)
theorem hb_call {w0 : World} (h : Below w0.heap.size w0 w) (hb : Below w.heap.size w x) : Below w0.heap.size w0 x := h.trans (hb.mono h.size)
theorem hb_row {w0 : World} {B : Nat} {e : TypeId} {sz k : Nat} {v : Value} {xs : List Value} (h : Below w0.heap.size w0 w) (hr : w.ownsRow B e sz v k xs) (hB : w0.heap.size ≤ B) (hg : w.grownBy x v.ownBlock) : Below w0.heap.size w0 x :=
  h.grown hg h.size (fun k e => by have := (hr.lt k e).1; omega)

theorem row_kept_new {B : Nat} {e : TypeId} {sz k : Nat} {v : Value} {xs : List Value} (h : w.ownsRow B e sz v k xs) (hg : w.grownBy x none) : x.ownsRow B e sz v k xs :=
  h.kept hg (by cases v.ownBlock <;> simp)
theorem row_kept_at {B : Nat} {e : TypeId} {sz k : Nat} {v : Value} {xs : List Value} (h : w.ownsRow B e sz v k xs) (hg : w.grownBy x (some N)) (hne : v.ownBlock ≠ some N) : x.ownsRow B e sz v k xs := h.kept hg (.inr hne)
theorem row_ne_lt {B : Nat} {e : TypeId} {sz k : Nat} {v : Value} {xs : List Value} (h : w.ownsRow B e sz v k xs) (hN : N < B) : v.ownBlock ≠ some N := fun e => by have := (h.lt N e).1; omega
/-- Rows of two types lie apart. -/
theorem row_kept_row {B B' : Nat} {e e' : TypeId} {sz sz' k k' : Nat} {v v' : Value} {xs ys : List Value} (h : w.ownsRow B e sz v k xs) (h' : w.ownsRow B' e' sz' v' k' ys) (hg : w.grownBy x v'.ownBlock) (hne : e ≠ e') : x.ownsRow B e sz v k xs := by
  refine h.kept hg ?_
  cases hv : v.ownBlock with
  | none => exact .inl rfl
  | some g =>
    refine .inr fun e1 => ?_
    rcases h.2 with ⟨rfl, _⟩ | ⟨g1, _, _, rfl, _, hg1, _⟩
    · simp [Value.ownBlock] at hv
    · rcases h'.2 with ⟨rfl, _⟩ | ⟨g2, _, _, rfl, _, hg2, _⟩
      · simp [Value.ownBlock] at e1
      · simp [Value.ownBlock] at hv e1
        subst hv
        rw [← e1, hg1] at hg2
        simp at hg2
        exact hne hg2.2
theorem blk_part (h : Blk w N T cs) (k : Nat) {l : List Value} (hl : (cs.toList.drop k).take l.length = l) : w.rangeAt N k l := fun j v hv => by
  refine h.cell ?_
  have hj := (List.getElem?_eq_some_iff.1 hv).1
  rw [← hl, List.getElem?_take, if_pos hj, List.getElem?_drop] at hv
  simpa using hv
/-- A variable, a struct, an array that is made. -/
theorem op_new {v : Nat → Value} (hok : okOps m o.op = true) (hsel : (match o.op with | .select .. => true | _ => false) = false) (hrun : (execOp (lk m) o).run P w = .ok (.value (v w.heap.size)) (w.alloc (.cells cs T))) :
    Op1 P n m o w (fun u x => ∃ N, u = v N ∧ N = w.heap.size ∧ x.heap.size = N + 1 ∧ Blk x N T cs ∧ w.grownBy x none) :=
  (op_run hok hsel hrun).mono fun u x ⟨h1, h2⟩ => by
    subst h2
    exact ⟨w.heap.size, h1, rfl, by simp, heap_alloc_new w _, World.grownBy_alloc w _ none⟩
theorem setCell_blk (h : Blk w N T cs) (k : Nat) (v : Value) : Blk (w.setCell ⟨N, k, none⟩ v) N T (cs.setIfInBounds k v) := by
  have hlt := (Array.getElem?_eq_some_iff.1 h).1
  have hx := (Array.getElem?_eq_some_iff.1 h).2
  unfold Blk World.setCell
  simp only [Array.getElem?_modify, if_true]
  rw [show w.heap[N]? = _ from h]
  simp
theorem grown_setCell (w : World) (N k : Nat) (v : Value) : w.grownBy (w.setCell ⟨N, k, none⟩ v) (some N) := ⟨rfl, rfl, rfl, by simp [World.setCell], fun j _ hj => Below.heap_setCell w _ v j (fun e => hj (by rw [e]))⟩
/-- A store of one cell into a block of the call's own. -/
theorem op_store1 {t : TypeId} {p q : Operand} {k : Nat} {v : Value} (ho : o.op = .store t p q) (hp : ev m p = some (.pointer (some ⟨N, k, none⟩))) (hq : ev m q = some v) (h1 : v.oneCell' = true) (hs : ∀ w : World, (sizeOf t).run P w = .ok 1 w)
    (hb : Blk w N T cs) (hk : Nat.blt k cs.size = true) : Op1 P n m o w (fun _ x => Blk x N T (cs.setIfInBounds k v) ∧ x.heap.size = w.heap.size ∧ w.grownBy x (some N)) := by
  intro a ha K Q hN
  have hk' : k < cs.size := by simpa using hk
  have hc : w.cell? ⟨N, k, none⟩ = some cs[k] := hb.cell (by simp [hk'])
  have hcell : v.cells = #[v] := by cases v <;> simp_all [Value.cells, Value.oneCell']
  have hrun : (Instr.storeAt t (.pointer (some ⟨N, k, none⟩)) v).run P w = .ok () (w.setCell ⟨N, k, none⟩ v) := by
    have h2 := run_storeCells_cells (P := P) N k [v] 0 w (fun j hj => by simp at hj; subst hj; simp [hc]) (fun j hj => by simpa using hb.frozen _) (by simpa using h1)
    simp only [Nat.add_zero] at h2
    simp [Instr.storeAt, Instr.sureAddr, storeVar, hcell, hs, Sem.run_bind, h2, World.setCells]
  unfold Oper.wp execOp
  simp only [ho, ha.ev hp, ha.ev hq, Sem.run_bind, hrun, Result.andThen_ok, Sem.run_pure]
  exact hN _ _ ⟨setCell_blk hb k v, by simp [World.setCell], grown_setCell w N k v⟩
theorem setCells_blk : ∀ (vs : List Value) (w : World) (cs : Array Value) (k : Nat), Blk w N T cs → k + vs.length ≤ cs.size → Blk (w.setCells N k vs) N T (cs.toList.take k ++ vs ++ cs.toList.drop (k + vs.length)).toArray
  | [], w, cs, k, h, _ => by simpa [World.setCells] using h
  | v :: r, w, cs, k, h, hl => by
    simp only [List.length_cons] at hl
    have := setCells_blk r (w.setCell ⟨N, k, none⟩ v) (cs.setIfInBounds k v) (k + 1) (setCell_blk h k v) (by simp; omega)
    rw [World.setCells]
    have e : ((cs.setIfInBounds k v).toList.take (k + 1) ++ r ++ (cs.setIfInBounds k v).toList.drop (k + 1 + r.length)) = cs.toList.take k ++ (v :: r) ++ cs.toList.drop (k + (r.length + 1)) := by
      simp only [Array.toList_setIfInBounds]
      rw [List.take_set, List.drop_set_of_lt (by omega), show k + 1 + r.length = k + (r.length + 1) by omega]
      have : (List.take (k + 1) cs.toList).set k v = cs.toList.take k ++ [v] := by
        rw [List.take_succ_eq_append_getElem (by simp; omega)]
        have hl : (List.take k cs.toList).length = k := by simp; omega
        rw [List.set_append, hl, if_neg (by omega)]
        simp
      rw [this]; simp
    rw [List.length_cons, ← e]; exact this
/-- A store of a whole value into a block of the call's own. -/
theorem op_storeN {t : TypeId} {p q : Operand} {cells : Array Value} (ho : o.op = .store t p q) (hp : ev m p = some (.pointer (some ⟨N, 0, none⟩))) (hq : ev m q = some (.agg cells)) (h1 : cells.all (·.oneCell') = true) (hi : (P.info? t).map (·.size) = some cells.size)
    (hb : Blk w N T cs) (hk : cs.size = cells.size) : Op1 P n m o w (fun _ x => Blk x N T cells ∧ x.heap.size = w.heap.size ∧ w.grownBy x (some N)) := by
  intro a ha K Q hN
  have hthere : w.there N 0 cells.size := fun j hj => ⟨by rw [hb.cell (k := 0 + j) (v := cs[j]) (by simp [hk, hj])]; rfl, hb.frozen _⟩
  refine wp_store_mid t p q ho N 0 cells (ha.ev hp) (ha.ev hq) hthere hi h1 (hN _ _ ⟨?_, ?_, ?_⟩)
  · have := setCells_blk cells.toList w cs 0 hb (by simp [hk])
    have e : (cells.toList ++ List.drop cells.size cs.toList).toArray = cells := by rw [List.drop_eq_nil_of_le (by simp [hk])]; simp
    simp only [List.take_zero, List.nil_append, Nat.zero_add, Array.length_toList, e] at this
    exact this
  · have hsz : ∀ (vs : List Value) (k : Nat) (w : World), (w.setCells N k vs).heap.size = w.heap.size := by
      intro vs
      induction vs with
      | nil => intro k w; rfl
      | cons v r ih => intro k w; rw [World.setCells, ih]; simp [World.setCell]
    exact hsz _ _ _
  · have hg : ∀ (vs : List Value) (k : Nat) (w : World), w.grownBy (w.setCells N k vs) (some N) := by
      intro vs
      induction vs with
      | nil => intro k w; exact World.grownBy.refl _ _
      | cons v r ih => intro k w; rw [World.setCells]; exact (grown_setCell w N k v).trans (ih _ _)
    exact hg _ _ _
/-- 'append(v, news..)', v a row of the call's own. -/
theorem op_append {s q : Operand} {t : TypeId} (ho : o.op = .call { callee := .builtin .append, args := #[s, q], argTypes := #[t, t] })
    (base : Nat) (e : TypeId) {z : Value} {size bytes : Nat} (ht : P.underlying t = some (.slice e)) (hi : (P.info? e).map (fun i => (i.zero, i.size, i.bytes)) = some (some z, size, bytes))
    (hzs : z.cells.size = size) (hsz : Nat.blt 0 size = true) {v : Value} {k : Nat} {xs : List Value} (hs : ev m s = some v) (hown : w.ownsRow base e size v k xs)
    {M q' c : Nat} {ws : Array Value} {T' : TypeId} (hx : ev m q = some (.slice (some ⟨M, 0, none⟩) q' c)) (hb : Blk w M T' ws) (hl : ws.size = q' * size) (h1 : ws.all (·.oneCell') = true)
    (h63 : k + q' ≤ 9223372036854775807) (hbytes : (k + q') * bytes ≤ 140737488355328) (hbase : base ≤ w.heap.size) :
    Op1 P n m o w (fun u x => x.ownsRow base e size u (k + q') (xs ++ ws.toList) ∧ w.grownBy x v.ownBlock) := by
  intro a ha K Q hN
  obtain ⟨i0, hii, hz0, hz1, hz2⟩ := info_parts hi
  refine wp_append_own w s q t ho base e i0 z size bytes ht hii hz0 hz1 hz2 hzs (by simpa using hsz) v k xs (ha.ev hs) hown ⟨M, 0, none⟩ q' c ws.toList (ha.ev hx) (by simpa using hl) ?_ ?_ (by unfold maxLen; exact h63) hbytes hbase (fun v' w' h2 h3 _ => hN _ _ ⟨h2, h3⟩)
  · intro j u hu
    rw [Addr.add_lit, Nat.zero_add]
    exact hb.cell (by simpa using hu)
  · intro u hu
    exact (Array.all_eq_true_iff_forall_mem.1 h1) u (by simpa using hu)

/-! ### A region that draws its order begins -/
section
variable {Q : Exit → Act → World → Prop} {a : Act}
theorem drew_grown (w : World) : w.grownBy w.drew none := ⟨rfl, rfl, rfl, Nat.le_refl _, fun _ _ _ => rfl⟩
theorem dr_eq {id : Nat} {l : List Oper} (hm : P.follows .mixedOrders = true) (h : ∀ wd, w.grownBy wd none → wpAnyH P .any l.toArray (NP Q) (fun x => x = wd) l.length (Array.replicate l.length false) a wd) : (Code.region id l.toArray true).wp P Q a w :=
  dr_start (S := fun x => x = w.drew) hm rfl (h _ (drew_grown w))
theorem dr_gen {id : Nat} {l : List Oper} (S : World → Prop) (hm : P.follows .mixedOrders = true) (hS : ∀ wd, w.grownBy wd none → S wd) (h : ∀ wd, w.grownBy wd none → wpAnyH P .any l.toArray (NP Q) S l.length (Array.replicate l.length false) a wd) : (Code.region id l.toArray true).wp P Q a w :=
  dr_start hm (hS _ (drew_grown w)) (h _ (drew_grown w))
end

/-! ### Slices that came in: the value is whatever it is, its place is told by two functions -/
def blkOf : Value → Nat
  | .slice (some a) _ _ => a.block
  | _ => 0
def offOf : Value → Nat
  | .slice (some a) _ _ => a.off
  | _ => 0
variable {α : Type} {enc : α → List Value} {sz : Nat} {v : Value} {l : List α}
theorem sl_len (h : SliceOf enc sz w v l) : l.length ≤ 9223372036854775807 := by obtain ⟨_, _, _, h1, h2, _⟩ := h; omega
theorem sl_at (h : SliceOf enc sz w v l) {i : Nat} {y : α} (hy : l[i]? = some y) : w.rangeAt (blkOf v) (offOf v + i * sz) (enc y) := by
  obtain ⟨ao, cap, rfl, _, _, _, hc⟩ := h
  obtain ⟨hi, e⟩ := List.getElem?_eq_some_iff.1 hy
  obtain ⟨b, off, rfl, hr⟩ := hc i hi
  rw [← e]; exact hr
/-- 'len(v)' -/
theorem rn_len {t : TypeId} {q : Operand} (ho : o.op = .call { callee := .builtin .len, args := #[q], argTypes := #[t] }) (hq : ev m q = some v) {e : TypeId} (ht : P.underlying t = some (.slice e)) (h : SliceOf enc sz w v l) : (execOp (lk m) o).run P w = .ok (.value (.int .i64 (l.length : Nat))) w := by
  obtain ⟨ao, cap, rfl, _, _, _, hc⟩ := h
  unfold execOp
  simp [ho, resolve, invoke, builtin, Sem.run_bind, lk_ev hq, Builtin.len_, goInt, run_underlying ht]
theorem rn_lenStr {t : TypeId} {q : Operand} {s : ByteArray} (ho : o.op = .call { callee := .builtin .len, args := #[q], argTypes := #[t] }) (hq : ev m q = some (.string s)) (ht : P.underlying t = some .string) : (execOp (lk m) o).run P w = .ok (.value (.int .i64 (s.size : Nat))) w := by
  unfold execOp
  simp [ho, resolve, invoke, builtin, Sem.run_bind, lk_ev hq, Builtin.len_, goInt, run_underlying ht]
/-- 'v[i]' as an address -/
theorem rn_index {t e : TypeId} {q r : Operand} {k : IntKind} {i : Int} {j : Nat} (ho : o.op = .indexAddr t q r) (hq : ev m q = some v) (hr : ev m r = some (.int k i)) (ht : P.underlying t = some (.slice e)) (hs : ∀ w : World, (sizeOf e).run P w = .ok sz w)
    (h : SliceOf enc sz w v l) (hij : i = (j : Nat)) (hj : j < l.length) : (execOp (lk m) o).run P w = .ok (.value (.pointer (some ⟨blkOf v, offOf v + j * sz, none⟩))) w := by
  subst hij
  obtain ⟨ao, cap, rfl, _, _, _, hc⟩ := h
  obtain ⟨b, off, rfl, _⟩ := hc j hj
  have hrun : (Instr.indexAt t (.slice (some ⟨b, off, none⟩) l.length cap) (.int k j)).run P w = .ok (.pointer (some ⟨b, off + j * sz, none⟩)) w := by
    have h0 : (0 : Int) ≤ (j : Nat) ∧ ((j : Nat) : Int) < (l.length : Nat) := by omega
    simp [Instr.indexAt, asIntOf, run_underlying ht, Sem.run_bind, h0, hs, hj, Addr.add_lit]
  unfold execOp
  simp only [ho, lk_ev hq, lk_ev hr, Sem.run_bind, hrun, Result.andThen_ok, Sem.run_pure]
  rfl
/-- A slice of another type, or nil, that is read as nothing. -/
theorem sl_nil (w : World) : SliceOf enc sz w (.slice none 0 0) ([] : List α) := SliceOf.nil _ _ _
end
end Go.Proofs.YtcbagajjgbfgdaaGreat

/- Steps of a walk over known slots: slices cut, appended from, rows as lists, closures, structs compared. Conditions: none. -/
namespace Go.Proofs.YtcbagajjgbfgdaaGreat
open Go.RowKit

section
variable {P : Program} {n : Nat} {m : List (Nat × Value)} {w x : World} {o : Oper} {N : Nat} {T : TypeId} {cs : Array Value} {α : Type} {enc : α → List Value} {sz : Nat} {v : Value} {l : List α}

theorem row_nilL (w : World) (base : Nat) (T : TypeId) (sz : Nat) (enc : α → List Value) : w.ownsRow base T sz (.slice none 0 0) ([] : List α).length (([] : List α).flatMap enc) := World.ownsRow_nil _ _ _ _
theorem row_push {base : Nat} {u : Value} {y : α} {k : Nat} {xs : List Value} (h : w.ownsRow base T sz u (l.length + k) (l.flatMap enc ++ xs)) (hk : k = 1) (he : enc y = xs) : w.ownsRow base T sz u (l ++ [y]).length ((l ++ [y]).flatMap enc) := by
  subst hk he; simpa using h
theorem row_lows {base base' : Nat} {u : Value} {k : Nat} {xs : List Value} (h : w.ownsRow base T sz u k xs) (hb : base' ≤ base) : w.ownsRow base' T sz u k xs := by
  refine ⟨h.1, ?_⟩
  rcases h.2 with h2 | ⟨g, c, r, e, hg, h3⟩
  · exact .inl h2
  · exact .inr ⟨g, c, r, e, by omega, h3⟩
theorem row_eq {base : Nat} {u : Value} {l' : List α} (h : w.ownsRow base T sz u l.length (l.flatMap enc)) (e : l = l') : w.ownsRow base T sz u l'.length (l'.flatMap enc) := by subst e; exact h
theorem row_sl {base : Nat} (h : w.ownsRow base T sz v l.length (l.flatMap enc)) (hsz : ∀ y : α, (enc y).length = sz) : SliceOf enc sz w v l := SliceOf.own h (fun y _ => hsz y)
theorem row_fresh {base : Nat} {k : Nat} {xs : List Value} (h : w.ownsRow base T sz v k xs) (hN : N = w.heap.size) : v.ownBlock ≠ some N := fun e => by have := (h.lt N e).2; omega
theorem rn_neS {T T' : TypeId} {q r : Operand} {a b : Array Value} {c : Bool} (ho : o.op = .binOp .neq T q r T') (hq : ev m q = some (.agg a)) (hr : ev m r = some (.agg b)) (hg : P.eqGuardType P.depth T = false) (h : (binOp .eql T (.agg a) (.agg b)).run P w = .ok (.bool c) w) : (execOp (lk m) o).run P w = .ok (.value (.bool !c)) w := by
  unfold execOp
  have h0 : (eqGuard .neq T q r (.agg a) (.agg b)).run P w = .ok () w := by
    simp [eqGuard, Sem.run_bind, run_program, hg]
  have h1 : (binOp .neq T (.agg a) (.agg b)).run P w = .ok (.bool !c) w := by
    have h2 : (Op.equal T (.agg a) (.agg b)).run P w = .ok c w := by
      cases h3 : (Op.equal T (.agg a) (.agg b)).run P w with
      | ok y w1 =>
        simp only [binOp, Sem.run_bind, h3, Result.andThen_ok, Sem.run_pure, Result.ok.injEq, Value.bool.injEq] at h
        rw [h.1, h.2]
      | halt y w1 => simp [binOp, Sem.run_bind, h3] at h
    simp only [binOp, Sem.run_bind, h2, Result.andThen_ok, Sem.run_pure]
  simp only [ho, lk_ev hq, lk_ev hr, Sem.run_bind, h0, h1, Result.andThen_ok, Sem.run_pure]
/-- A struct and a slot as results. -/
theorem co_retC1 {Q : Exit → Act → World → Prop} {a : Act} {fn : Func} {E : Ending → World → Prop} {t u : Nat} {T' : TypeId} {y : Value} {d : TypeDesc} (hs : Slots n m a) (hr : fn.results = #[.cell t T', .tmp u]) (ht : m.lookup t = some (.pointer (some ⟨N, 0, none⟩))) (hu : m.lookup u = some y) (hb : Blk w N T cs)
    (hd : P.underlying T' = some d) (hrow : d.isRow = true) (hi : (P.info? T').map (·.size) = some cs.size) (h : E (.returned (.tuple #[.agg cs, y])) w) : bodyPost P fn E .ret a w := by
  have h1 := hs.look t _ ht
  have h2 := hs.look u _ hu
  have hl := run_loadVar_mid w N 0 T' cs.toList d hb.all hd hrow (by simpa using hi)
  have hrun : (results fn a.tmps).run P w = .ok (.tuple #[.agg cs, y]) w := by
    have h1' : (a.tmps[t]?).getD undef = .pointer (some ⟨N, 0, none⟩) := by rw [← h1, Array.getD_eq_getD_getElem?]
    have h2' : (a.tmps[u]?).getD undef = y := by rw [← h2, Array.getD_eq_getD_getElem?]
    simp [results, hr, h1', h2', asAddr, hl, Sem.run_bind]
  exact bodyPost_ret hrun hs.defers h
end
end Go.Proofs.YtcbagajjgbfgdaaGreat

/- Drawn regions in which several operations may come up: each way for itself. Conditions: none. -/
namespace Go.Proofs.YtcbagajjgbfgdaaGreat
open Go.RowKit

section
variable {P : Program} {n : Nat} {m : List (Nat × Value)} {w : World} {o : Oper} {ops : Array Oper} {Q : Exit → Act → World → Prop} {R : Value → World → Prop} {md : Region.Mode} {S : World → Prop} {fuel i d : Nat} {listed : Array Bool} {a : Act}
def AllW (P : Program) (md : Region.Mode) (ops : Array Oper) (Q : Exit → Act → World → Prop) (S : World → Prop) (fuel : Nat) (listed : Array Bool) (a : Act) (w : World) : List Nat → Prop
  | [] => True
  | i :: r => wpOp P ops (NP Q) i (fun a' w' => S w' ∧ wpAnyH P md ops (NP Q) S fuel (listed.setIfInBounds i true) a' w') a w ∧ AllW P md ops Q S fuel listed a w r
theorem AllW.all : ∀ (rs : List Nat), AllW P md ops Q S fuel listed a w rs → ∀ i ∈ rs, wpOp P ops (NP Q) i (fun a' w' => S w' ∧ wpAnyH P md ops (NP Q) S fuel (listed.setIfInBounds i true) a' w') a w
  | [], _, _, h => by cases h
  | i :: r, h, j, hj => by
    rcases List.mem_cons.1 hj with rfl | hj
    · exact h.1
    · exact AllW.all r h.2 j hj
/-- Several may come up. -/
theorem dr_many (rs : List Nat) (hr : Region.ready md ops listed = rs) (hne : rs ≠ []) (h : AllW P md ops Q S fuel listed a w rs) : wpAnyH P md ops (NP Q) S (fuel + 1) listed a w := wpAnyH_all hr hne (AllW.all rs h)
theorem dr_op (hs : Slots n m a) (ho : ops[i]? = some o) (hw : wantB m ops o = some true) (hd : o.dst = some d) (hdn : Nat.blt d n = true) (h1 : Op1 P n m o w R) (hS : ∀ v w', R v w' → S w')
    (h : ∀ v w' a', R v w' → Slots n ((d, v) :: m) a' → wpAnyH P md ops (NP Q) S fuel (listed.setIfInBounds i true) a' w') : wpOp P ops (NP Q) i (fun a' w' => S w' ∧ wpAnyH P md ops (NP Q) S fuel (listed.setIfInBounds i true) a' w') a w := by
  unfold wpOp
  simp only [ho, hs.wants hw, if_true]
  exact .inl (h1 a hs _ _ fun v w' hv => ⟨hS v w' hv, h v w' _ hv (by rw [hd]; exact hs.put (by simpa using hdn))⟩)
/-- One that yields v and leaves the world as it is. -/
theorem dr_opVal {v : Value} (hs : Slots n m a) (ho : ops[i]? = some o) (hw : wantB m ops o = some true) (hd : o.dst = some d) (hdn : Nat.blt d n = true) (hok : okOps m o.op = true) (hsel : (match o.op with | .select .. => true | _ => false) = false) (hrun : (execOp (lk m) o).run P w = .ok (.value v) w) (hS : S w)
    (h : ∀ a', Slots n ((d, v) :: m) a' → wpAnyH P md ops (NP Q) S fuel (listed.setIfInBounds i true) a' w) : wpOp P ops (NP Q) i (fun a' w' => S w' ∧ wpAnyH P md ops (NP Q) S fuel (listed.setIfInBounds i true) a' w') a w :=
  dr_op hs ho hw hd hdn (op_run hok hsel hrun) (fun _ _ ⟨_, h2⟩ => by subst h2; exact hS) (fun _ _ a' ⟨h1, h2⟩ hs' => by subst h1 h2; exact h a' hs')
end
theorem row_one {w : World} {B sz k : Nat} {T : TypeId} {v : Value} {xs : List Value} (h : w.ownsRow B T sz v k xs) : v.oneCell' = true := by
  rcases h.2 with ⟨rfl, _⟩ | ⟨g, cap, cur, rfl, _⟩ <;> rfl
theorem sl_one {α : Type} {enc : α → List Value} {sz : Nat} {w : World} {v : Value} {l : List α} (h : SliceOf enc sz w v l) : v.oneCell' = true := by
  obtain ⟨ao, cap, rfl, _⟩ := h; rfl
theorem all_nil : ([] : List Value).toArray.all (·.oneCell') = true := by simp
theorem all_cons {u : Value} {l : List Value} (h : u.oneCell' = true) (hl : l.toArray.all (·.oneCell') = true) : (u :: l).toArray.all (·.oneCell') = true := by
  simp only [List.all_toArray, List.all_cons, Bool.and_eq_true] at hl ⊢
  exact ⟨h, hl⟩
/-- A pointer. -/
abbrev pt (b o : Nat) : Value := .pointer (some ⟨b, o, none⟩)
/-! ### Short forms: what follows by computing alone stands behind. -/
section
variable {P : Program} {n : Nat} {m : List (Nat × Value)} {w : World} {o : Oper} {ops : Array Oper} {rest : List Oper} {Q : Exit → Act → World → Prop} {R : Value → World → Prop} {md : Region.Mode} {S : World → Prop} {fuel d : Nat} {listed : Array Bool} {a : Act} {v : Value}
theorem pk (hs : Slots n m a) (hd : o.dst = some d) (hrun : (execOp (lk m) o).run P w = .ok (.value v) w) (h : ∀ a', Slots n ((d, v) :: m) a' → wpList P ops Q rest a' w)
    (hg : wantB m ops o = some true := by rfl) (hdn : Nat.blt d n = true := by rfl) (hok : okOps m o.op = true := by kernel_rfl) (hsel : (match o.op with | .select .. => true | _ => false) = false := by kernel_rfl) : wpList P ops Q (o :: rest) a w := pl_val hs hg hd hdn hok hsel hrun h
theorem pk0 (hs : Slots n m a) (hd : o.dst = some d) (h : ∀ a', Slots n ((d, v) :: m) a' → wpList P ops Q rest a' w)
    (hg : wantB m ops o = some true := by rfl) (hdn : Nat.blt d n = true := by rfl) (hok : okOps m o.op = true := by kernel_rfl) (hsel : (match o.op with | .select .. => true | _ => false) = false := by kernel_rfl) (hrun : (execOp (lk m) o).run P w = .ok (.value v) w := by kernel_rfl) : wpList P ops Q (o :: rest) a w := pl_val hs hg hd hdn hok hsel hrun h
theorem pw (hs : Slots n m a) (hd : o.dst = some d) (h1 : Op1 P n m o w R) (h : ∀ v w' a', R v w' → Slots n ((d, v) :: m) a' → wpList P ops Q rest a' w') (hg : wantB m ops o = some true := by rfl) (hdn : Nat.blt d n = true := by rfl) : wpList P ops Q (o :: rest) a w := pl_want hs hg hd hdn h1 h
theorem pwD (hs : Slots n m a) (hd : o.dst = none) (h1 : Op1 P n m o w R) (h : ∀ v w' a', R v w' → Slots n m a' → wpList P ops Q rest a' w') (hg : wantB m ops o = some true := by rfl) : wpList P ops Q (o :: rest) a w := pl_doW hs hg hd h1 h
theorem psk (hs : Slots n m a) (hd : o.dst = some d) (h : ∀ a', Slots n ((d, undef) :: m) a' → wpList P ops Q rest a' w) (hg : wantB m ops o = some false := by rfl) (hdn : Nat.blt d n = true := by rfl) : wpList P ops Q (o :: rest) a w := pl_skip hs hg hd hdn h
theorem dk (i : Nat) (hs : Slots n m a) (ho : ops[i]? = some o) (hd : o.dst = some d) (hS : S w) (hrun : ∀ w, S w → (execOp (lk m) o).run P w = .ok (.value v) w) (h : ∀ a', Slots n ((d, v) :: m) a' → wpAnyH P md ops (NP Q) S fuel (listed.setIfInBounds i true) a' w)
    (hsel : Region.noSelect ops = true := by kernel_rfl) (hf : Region.free md ops listed i = true := by kernel_rfl) (hr : (Region.ready md ops listed).contains i = true := by kernel_rfl) (hw : wantB m ops o = some true := by rfl) (hdn : Nat.blt d n = true := by rfl) (hok : okOps m o.op = true := by kernel_rfl) : wpAnyH P md ops (NP Q) S (fuel + 1) listed a w := dr_take hs ho hsel hf hr hw hd hdn hS hok hrun h
theorem dk0 (i : Nat) (hs : Slots n m a) (ho : ops[i]? = some o) (hd : o.dst = some d) (hS : S w) (h : ∀ a', Slots n ((d, v) :: m) a' → wpAnyH P md ops (NP Q) S fuel (listed.setIfInBounds i true) a' w)
    (hsel : Region.noSelect ops = true := by kernel_rfl) (hf : Region.free md ops listed i = true := by kernel_rfl) (hr : (Region.ready md ops listed).contains i = true := by kernel_rfl) (hw : wantB m ops o = some true := by rfl) (hdn : Nat.blt d n = true := by rfl) (hok : okOps m o.op = true := by kernel_rfl) (hrun : ∀ w, S w → (execOp (lk m) o).run P w = .ok (.value v) w := by intro _ _; kernel_rfl) : wpAnyH P md ops (NP Q) S (fuel + 1) listed a w := dr_take hs ho hsel hf hr hw hd hdn hS hok hrun h
theorem dsk (i : Nat) (hs : Slots n m a) (ho : ops[i]? = some o) (hd : o.dst = some d) (hS : S w) (h : ∀ a', Slots n ((d, undef) :: m) a' → wpAnyH P md ops (NP Q) S fuel (listed.setIfInBounds i true) a' w)
    (hsel : Region.noSelect ops = true := by kernel_rfl) (hf : Region.free md ops listed i = true := by kernel_rfl) (hr : (Region.ready md ops listed).contains i = true := by kernel_rfl) (hw : wantB m ops o = some false := by rfl) (hdn : Nat.blt d n = true := by rfl) : wpAnyH P md ops (NP Q) S (fuel + 1) listed a w := dr_skip hs ho hsel hf hr hw hd hdn hS h
theorem d1 (i : Nat) (hs : Slots n m a) (ho : ops[i]? = some o) (hd : o.dst = some d) (h1 : Op1 P n m o w R) (hS : ∀ v w', R v w' → S w') (h : ∀ v w' a', R v w' → Slots n ((d, v) :: m) a' → wpAnyH P md ops (NP Q) S fuel (listed.setIfInBounds i true) a' w')
    (hr : Region.ready md ops listed = [i] := by kernel_rfl) (hw : wantB m ops o = some true := by rfl) (hdn : Nat.blt d n = true := by rfl) : wpAnyH P md ops (NP Q) S (fuel + 1) listed a w := dr_one hs ho hr hw hd hdn h1 hS h
theorem d1D (i : Nat) (hs : Slots n m a) (ho : ops[i]? = some o) (hd : o.dst = none) (h1 : Op1 P n m o w R) (hS : ∀ v w', R v w' → S w') (h : ∀ v w' a', R v w' → Slots n m a' → wpAnyH P md ops (NP Q) S fuel (listed.setIfInBounds i true) a' w')
    (hr : Region.ready md ops listed = [i] := by kernel_rfl) (hw : wantB m ops o = some true := by rfl) : wpAnyH P md ops (NP Q) S (fuel + 1) listed a w := dr_oneDo hs ho hr hw hd h1 hS h
end
end Go.Proofs.YtcbagajjgbfgdaaGreat

/- Writers and readers that a walk has made: what they hold, what a call on them turns. Conditions: none. -/
namespace Go.Proofs.YtcbagajjgbfgdaaGreat
open Go.RowKit Go.PlainAid
set_option linter.unusedVariables false

section
variable {w x w0 : World} {b N : Nat} {l l' : List UInt8} {m m' : Nat} {e : Int}
theorem but_grown (h : But (Own b) w x) : w.grownBy x (some b) := ⟨h.os, h.tape, h.output, h.size, fun k hk hne => h.block k hk (fun e => hne (by rw [show k = b from e]))⟩
theorem grown_but {row : Option Nat} (h : w.grownBy x row) : But (fun k => row = some k) w x := ⟨h.os, h.tape, h.output, h.size, fun k hk hn => h.block k hk (fun e => hn e.symm)⟩
theorem Wr.lt' {B : Nat} (h : Wr w b B l e) : b < w.heap.size := World.block_lt_of_cell? w _ h.made
theorem Wr.keep {S : Nat → Prop} {B : Nat} (h : Wr w b B l e) (hb : But S w x) (hs : ¬ S b) (hr : ∀ k, rowOf w b = some k → ¬ S k) : Wr x b B l e := by
  have hl := h.lt'
  obtain ⟨v, hc, h1, h2⟩ := h.buf
  have hr' : ∀ k, v.ownBlock = some k → ¬ S k := fun k hk => hr k (by rw [rowOf_cell hc]; exact hk)
  refine ⟨hb.cell hs h.made, hb.cell hs h.err, by rw [hb.frozen hl hs]; exact h.fr1, by rw [hb.frozen hl hs]; exact h.fr2, h.lt, Nat.le_trans h.le hb.size, v, hb.cell hs hc, h1, ?_⟩
  rcases h2 with h2 | ⟨g, cap, cur, hv, hg, hh, r⟩
  · exact Or.inl h2
  · exact Or.inr ⟨g, cap, cur, hv, hg, by rw [hb.block g (Array.getElem?_eq_some_iff.1 hh).1 (hr' g (by rw [hv]; rfl))]; exact hh, r⟩
theorem Wr.row_is {B : Nat} (h : Wr w b B l e) {k : Nat} (hk : rowOf w b = some k) : ∃ cs, w.heap[k]? = some (.cells cs 5 (0, 0)) := by
  obtain ⟨v, hc, h1, h2⟩ := h.buf
  rw [rowOf_cell hc] at hk
  rcases h2 with ⟨hv, _⟩ | ⟨g, cap, cur, hv, hg, hh, r⟩
  · rw [hv] at hk; cases hk
  · rw [hv] at hk
    have : g = k := by simpa [Value.ownBlock] using hk
    subst this; exact ⟨cur, hh⟩
theorem Wr.ne_blk {B : Nat} {T : TypeId} {cs : Array Value} (h : Wr w b B l e) (hk : Blk w N T cs) (hT : T ≠ 5) : rowOf w b ≠ some N := fun e1 => by
  obtain ⟨c, h1⟩ := h.row_is e1
  unfold Blk at hk
  rw [hk] at h1
  injection h1 with h1; injection h1 with h2 h3
  exact hT h3
theorem Wr.ne_row {B B' k sz : Nat} {T : TypeId} {v : Value} {xs : List Value} (h : Wr w b B l e) (hr : w.ownsRow B' T sz v k xs) (hT : T ≠ 5) : ∀ g, v.ownBlock = some g → rowOf w b ≠ some g := fun g hg e1 => by
  obtain ⟨c, h1⟩ := h.row_is e1
  rcases hr.2 with ⟨hv, _⟩ | ⟨g', cap, cur, hv, _, hh, _⟩
  · rw [hv] at hg; cases hg
  · rw [hv] at hg
    have : g' = g := by simpa [Value.ownBlock] using hg
    subst this
    rw [hh] at h1
    injection h1 with h1; injection h1 with h2 h3
    exact hT h3
/-- The program's writer, block b: l, of at most m bytes, and no error. -/
structure OW (b : Nat) (l : List UInt8) (m : Nat) (w : World) : Prop where
  wr : Wr w b (b + 1) l 0
  len : l.length ≤ m
theorem OW.lt (h : OW b l m w) : b < w.heap.size := h.wr.lt'
theorem OW.below (h : OW b l m w) (hb : Below w.heap.size w x) : OW b l m x := ⟨h.wr.below hb, h.len⟩
theorem OW.new (h : OW b l m w) (hg : w.grownBy x none) : OW b l m x := h.below (grown_below hg)
theorem OW.eq (h : OW b l m w) (he : l = l') (hm : m ≤ m') : OW b l' m' w := by subst he; exact ⟨h.wr, Nat.le_trans h.len hm⟩
theorem OW.at {T : TypeId} {cs : Array Value} (h : OW b l m w) (hk : Blk w N T cs) (hT : T ≠ 5) (hne : b ≠ N) (hg : w.grownBy x (some N)) : OW b l m x :=
  ⟨h.wr.keep (grown_but hg) (fun e1 => hne (Option.some.inj e1).symm) (fun k hk' e1 => h.wr.ne_blk hk hT (by rw [hk']; exact e1.symm)), h.len⟩
theorem OW.row {B' k sz : Nat} {T : TypeId} {v : Value} {xs : List Value} (h : OW b l m w) (hr : w.ownsRow B' T sz v k xs) (hT : T ≠ 5) (hne : v.ownBlock ≠ some b) (hg : w.grownBy x v.ownBlock) : OW b l m x :=
  ⟨h.wr.keep (grown_but hg) hne (fun k hk' e1 => h.wr.ne_row hr hT k e1 hk'), h.len⟩
theorem blk_wr {T : TypeId} {cs : Array Value} (hk : Blk w N T cs) (h : OW b l m w) (hT : T ≠ 5) (hne : N ≠ b) (hb : But (Rw w b) w x) : Blk x N T cs := by
  have hl := hk.lt
  unfold Blk at hk ⊢
  rw [hb.block N hl ?_]
  · exact hk
  · rintro (h1 | h1)
    · exact hne h1
    · exact h.wr.ne_blk hk hT h1
theorem hb_wr (h0 : Below w0.heap.size w0 w) (h : OW b l m w) (hlt : w0.heap.size ≤ b) (hb : But (Rw w b) w x) : Below w0.heap.size w0 x :=
  below_but h0 hb h0.size (fun k _ hk => by
    rcases h.wr.only hk with h1 | h1 <;> omega)
theorem sum_le {k q : Nat} (h : l.length ≤ m) (hk : l'.length ≤ k) (hq : q = m + k) : (l ++ l').length ≤ q := by rw [List.length_append]; omega
theorem ow_new (w : World) : Calls Tryz.prog 18 #[] w fun e w' => ∃ b, e = .returned (.pointer (some ⟨b, 0, none⟩)) ∧ b = w.heap.size ∧ OW b [] 0 w' ∧ Below w.heap.size w w' :=
  (wnew_any w).mono (by
    rintro e x ⟨rfl, hf, hz, hb⟩
    exact ⟨_, rfl, rfl, ⟨hf.wr (Below.refl _ _) (Nat.lt_succ_self _) (by omega), by simp⟩, hb⟩)
theorem ow_num (b : Nat) (l : List UInt8) (m : Nat) (n : Int) (w : World) (h : OW b l m w) (hm : m ≤ 140737488355000) (h0 : 0 ≤ n) (h1 : n ≤ 9223372036854775807) :
    Calls Tryz.prog 19 #[.pointer (some ⟨b, 0, none⟩), .int .i64 n] w fun e w' => e = .returned (.pointer (some ⟨b, 0, none⟩)) ∧ OW b (l ++ putL n) (m + 9) w' ∧ But (Rw w b) w w' :=
  (wNum_rw b (b + 1) l 0 n w h.wr (Nat.le_trans h.len hm) h1).mono (by
    rintro e x ⟨rfl, hw, hb⟩
    have e1 : wNum n (l, 0) = (l ++ putL n, 0) := by unfold wNum; rw [if_neg (by simp), if_neg (by omega)]
    rw [e1] at hw
    exact ⟨rfl, ⟨hw, sum_le h.len (putL_le n) rfl⟩, hb⟩)
theorem ow_big (b : Nat) (l : List UInt8) (m : Nat) (n : Int) (w : World) (h : OW b l m w) (hm : m ≤ 140737488355000) (h0 : 0 ≤ n) (h1 : n < 18446744073709551616) :
    Calls Tryz.prog 58 #[.pointer (some ⟨b, 0, none⟩), .int .u64 n] w fun e w' => e = .returned (.pointer (some ⟨b, 0, none⟩)) ∧ OW b (l ++ putL n) (m + 9) w' ∧ But (Rw w b) w w' :=
  (wBig_rw b (b + 1) l 0 n w h.wr (Nat.le_trans h.len hm) h0 h1).mono (by
    rintro e x ⟨rfl, hw, hb⟩
    have e1 : wBig n (l, 0) = (l ++ putL n, 0) := by unfold wBig; rw [if_neg (by simp)]
    rw [e1] at hw
    exact ⟨rfl, ⟨hw, sum_le h.len (putL_le n) rfl⟩, hb⟩)
theorem ow_text (b : Nat) (l : List UInt8) (m : Nat) (s : ByteArray) (w : World) (h : OW b l m w) (hm : m + s.size ≤ 140737488355000) :
    Calls Tryz.prog 59 #[.pointer (some ⟨b, 0, none⟩), .string s] w fun e w' => e = .returned (.pointer (some ⟨b, 0, none⟩)) ∧ OW b (l ++ (putL (s.size : Int) ++ s.data.toList)) (m + (9 + s.size)) w' ∧ But (Rw w b) w w' :=
  (wText_rw b (b + 1) l 0 s w h.wr (by have := h.len; omega)).mono (by
    rintro e x ⟨rfl, hw, hb⟩
    have e1 : wText s (l, 0) = (l ++ (putL (s.size : Int) ++ s.data.toList), 0) := by unfold wText; rw [if_neg (by simp), List.append_assoc]
    rw [e1] at hw
    exact ⟨rfl, ⟨hw, sum_le h.len (sum_le (putL_le _) (Nat.le_refl _) rfl) (by simp)⟩, hb⟩)
theorem ow_flag (b : Nat) (l : List UInt8) (m : Nat) (f : Bool) (w : World) (h : OW b l m w) (hm : m ≤ 140737488355000) :
    Calls Tryz.prog 57 #[.pointer (some ⟨b, 0, none⟩), .bool f] w fun e w' => e = .returned (.pointer (some ⟨b, 0, none⟩)) ∧ OW b (l ++ [flagB f]) (m + 1) w' ∧ But (Rw w b) w w' :=
  (wFlag_rw b (b + 1) l 0 f w h.wr (Nat.le_trans h.len hm)).mono (by
    rintro e x ⟨rfl, hw, hb⟩
    have e1 : wFlag f (l, 0) = (l ++ [flagB f], 0) := by unfold wFlag; rw [if_neg (by simp)]
    rw [e1] at hw
    exact ⟨rfl, ⟨hw, sum_le h.len (k := 1) (by simp) rfl⟩, hb⟩)
theorem ow_done (b : Nat) (l : List UInt8) (m : Nat) (w : World) (h : OW b l m w) :
    Calls Tryz.prog 22 #[.pointer (some ⟨b, 0, none⟩)] w fun e w' => e = .returned (.tuple #[.string ⟨l.toArray⟩, .int .i64 0]) ∧ Below w.heap.size w w' :=
  (wDone_ok b (b + 1) l w h.wr).mono (by rintro e x ⟨rfl, rfl⟩; exact ⟨rfl, Below.refl _ _⟩)
/-- The document's own writer. -/
structure OX (b : Nat) (l : List UInt8) (m : Nat) (w : World) : Prop where
  wr : RWr w b l 0
  len : l.length ≤ m
theorem OX.lt (h : OX b l m w) : b < w.heap.size := h.wr.lt
theorem OX.below (h : OX b l m w) (hb : Below w.heap.size w x) : OX b l m x := ⟨h.wr.below hb, h.len⟩
theorem OX.new (h : OX b l m w) (hg : w.grownBy x none) : OX b l m x := h.below (grown_below hg)
theorem OX.eq (h : OX b l m w) (he : l = l') (hm : m ≤ m') : OX b l' m' w := by subst he; exact ⟨h.wr, Nat.le_trans h.len hm⟩
theorem OX.at (h : OX b l m w) (hne : b ≠ N) (hg : w.grownBy x (some N)) : OX b l m x := ⟨h.wr.but (grown_but hg) (fun e1 => hne (Option.some.inj e1).symm), h.len⟩
theorem OX.row {v : Value} (h : OX b l m w) (hne : v.ownBlock ≠ some b) (hg : w.grownBy x v.ownBlock) : OX b l m x := ⟨h.wr.but (grown_but hg) hne, h.len⟩
end

section
variable {w x : World} {b N : Nat} {s : ByteArray} {a e : Int}
/-- The program's reader: it stands at a (if it has no error), its error is e. -/
structure OR (b : Nat) (s : ByteArray) (a e : Int) (w : World) : Prop where
  re : RE w b s a e
  pos : e = 0 → 0 ≤ a ∧ a ≤ s.size
theorem OR.lt (h : OR b s a e w) : b < w.heap.size := h.re.lt
theorem OR.below (h : OR b s a e w) (hb : Below w.heap.size w x) : OR b s a e x := ⟨h.re.below hb, h.pos⟩
theorem OR.new (h : OR b s a e w) (hg : w.grownBy x none) : OR b s a e x := h.below (grown_below hg)
theorem OR.at (h : OR b s a e w) (hne : b ≠ N) (hg : w.grownBy x (some N)) : OR b s a e x := ⟨h.re.but (grown_but hg) (fun e1 => hne (Option.some.inj e1).symm), h.pos⟩
theorem OR.row {v : Value} (h : OR b s a e w) (hne : v.ownBlock ≠ some b) (hg : w.grownBy x v.ownBlock) : OR b s a e x := ⟨h.re.but (grown_but hg) hne, h.pos⟩
theorem OR.nat (h : OR b s a e w) : RE w b s (a.toNat : Int) e ∧ (e = 0 → a.toNat ≤ s.size) := by
  by_cases he : e = 0
  · have := h.pos he
    have e1 : (a.toNat : Int) = a := by omega
    rw [e1]; exact ⟨h.re, fun _ => by omega⟩
  · exact ⟨h.re.weak he, fun h1 => absurd h1 he⟩
theorem or_open (s : ByteArray) (w : World) : Calls Tryz.prog 46 #[.string s] w fun e w' => ∃ b, e = .returned (.pointer (some ⟨b, 0, none⟩)) ∧ b = w.heap.size ∧ OR b s 0 0 w' ∧ Below w.heap.size w w' :=
  (open_any s w).mono (by rintro e x ⟨rfl, hr, hb⟩; exact ⟨_, rfl, rfl, ⟨RE.good hr, fun _ => by omega⟩, hb⟩)
theorem upR_le {s : ByteArray} {a m x : Int} (hm : 0 ≤ m) : 0 ≤ (upR s a m x).1 ∧ (upR s a m x).1 ≤ m := by
  have := getR_range s a
  unfold upR
  split
  · exact ⟨Int.le_refl _, hm⟩
  split
  · exact ⟨Int.le_refl _, hm⟩
  · dsimp only; omega
theorem numR_le {s : ByteArray} {a x m : Int} (hm : 0 ≤ m) : 0 ≤ (numR s a x m).1 ∧ (numR s a x m).1 ≤ m := by
  have := upR_le (s := s) (a := a) (x := 5) hm
  unfold numR
  split
  · exact ⟨Int.le_refl _, hm⟩
  · dsimp only; split
    · exact this
    · exact ⟨Int.le_refl _, hm⟩
theorem textR_le {s : ByteArray} {a x m : Int} (hm : 0 ≤ m) : ((textR s a x m).1.size : Int) ≤ m := by
  have := upR_le (s := s) (a := a) (x := 3) hm
  unfold textR
  split
  · exact hm
  split
  · exact hm
  split
  · exact hm
  · dsimp only
    rw [ByteArray.size_extract]; omega
theorem or_num (b : Nat) (s : ByteArray) (a e m : Int) (w : World) (h : OR b s a e w) (hs : s.size ≤ 9223372036854775807) (h0 : 0 ≤ m) (hm : m ≤ 9223372036854775807) :
    Calls Tryz.prog 47 #[.pointer (some ⟨b, 0, none⟩), .int .i64 m] w fun e1 w' => ∃ n a' e', e1 = .returned (.int .i64 n) ∧ numR s a e m = (n, a', e') ∧ 0 ≤ n ∧ n ≤ m ∧ OR b s a' e' w' ∧ w.grownBy w' (some b) :=
  (rNum_re b s a e m w h.re hs hm).mono (by
    rintro e1 x ⟨rfl, hw, hb⟩
    exact ⟨_, _, _, rfl, rfl, (numR_le h0).1, (numR_le h0).2, ⟨hw, numR_at⟩, but_grown hb⟩)
theorem or_text (b : Nat) (s : ByteArray) (a e m : Int) (w : World) (h : OR b s a e w) (hs : s.size ≤ 9223372036854775807) (h0 : 0 ≤ m) (hm : m ≤ 9223372036854775807) :
    Calls Tryz.prog 99 #[.pointer (some ⟨b, 0, none⟩), .int .i64 m] w fun e1 w' => ∃ t a' e', e1 = .returned (.string t) ∧ textR s a e m = (t, a', e') ∧ (t.size : Int) ≤ m ∧ OR b s a' e' w' ∧ w.grownBy w' (some b) :=
  (rText_re b s a e m w h.re hs hm).mono (by
    rintro e1 x ⟨rfl, hw, hb⟩
    exact ⟨_, _, _, rfl, rfl, textR_le h0, ⟨hw, textR_at⟩, but_grown hb⟩)
theorem or_flag (b : Nat) (s : ByteArray) (a e : Int) (w : World) (h : OR b s a e w) (hs : s.size ≤ 9223372036854775807) :
    Calls Tryz.prog 97 #[.pointer (some ⟨b, 0, none⟩)] w fun e1 w' => ∃ f a' e', e1 = .returned (.bool f) ∧ flagR s a.toNat e = (f, a', e') ∧ OR b s a' e' w' ∧ w.grownBy w' (some b) :=
  (rFlag_re b s a.toNat e w h.nat.1 hs h.nat.2).mono (by
    rintro e1 x ⟨rfl, hw, hb⟩
    exact ⟨_, _, _, rfl, rfl, ⟨hw, flagR_at h.nat.2⟩, but_grown hb⟩)
theorem or_end (b : Nat) (s : ByteArray) (a e : Int) (w : World) (h : OR b s a e w) (hs : s.size ≤ 9223372036854775807) :
    Calls Tryz.prog 50 #[.pointer (some ⟨b, 0, none⟩)] w fun e1 w' => ∃ r, e1 = .returned (.int .i64 r) ∧ endV s a.toNat e = r ∧ Below w.heap.size w w' :=
  (end_re b s a.toNat e w h.nat.1 hs h.nat.2).mono (by
    rintro e1 x ⟨rfl, hb⟩
    exact ⟨_, rfl, rfl, hb⟩)
/-- The document's own reader. -/
structure OXR (b : Nat) (s : ByteArray) (a e : Int) (w : World) : Prop where
  re : XRE w b s a e
  pos : e = 0 → 0 ≤ a ∧ a ≤ s.size
theorem XRE.lt (h : XRE w b s a e) : b < w.heap.size := World.block_lt_of_cell? w _ h.cell
theorem OXR.lt (h : OXR b s a e w) : b < w.heap.size := h.re.lt
theorem OXR.below (h : OXR b s a e w) (hb : Below w.heap.size w x) : OXR b s a e x := ⟨h.re.below hb, h.pos⟩
theorem OXR.new (h : OXR b s a e w) (hg : w.grownBy x none) : OXR b s a e x := h.below (grown_below hg)
theorem OXR.at (h : OXR b s a e w) (hne : b ≠ N) (hg : w.grownBy x (some N)) : OXR b s a e x := ⟨h.re.but (grown_but hg) (fun e1 => hne (Option.some.inj e1).symm), h.pos⟩
theorem OXR.row {v : Value} (h : OXR b s a e w) (hne : v.ownBlock ≠ some b) (hg : w.grownBy x v.ownBlock) : OXR b s a e x := ⟨h.re.but (grown_but hg) hne, h.pos⟩
theorem OXR.nat (h : OXR b s a e w) : XRE w b s (a.toNat : Int) e ∧ (e = 0 → a.toNat ≤ s.size) := by
  by_cases he : e = 0
  · have := h.pos he
    have e1 : (a.toNat : Int) = a := by omega
    rw [e1]; exact ⟨h.re, fun _ => by omega⟩
  · exact ⟨h.re.weak he, fun h1 => absurd h1 he⟩
theorem oxr_of (h : Blk w b 94 #[.string s, .int .i64 0, .int .i64 0]) : OXR b s 0 0 w := ⟨XRE.good ⟨h.cell rfl, h.cell rfl, h.cell rfl, h.frozen _, h.frozen _⟩, fun _ => by omega⟩
theorem oxr_num (b : Nat) (s : ByteArray) (a e m : Int) (w : World) (h : OXR b s a e w) (hs : s.size ≤ 9223372036854775807) (h0 : 0 ≤ m) (hm : m ≤ 9223372036854775807) :
    Calls Tryz.prog 51 #[.pointer (some ⟨b, 0, none⟩), .int .i64 m] w fun e1 w' => ∃ n a' e', e1 = .returned (.int .i64 n) ∧ numR s a e m = (n, a', e') ∧ 0 ≤ n ∧ n ≤ m ∧ OXR b s a' e' w' ∧ w.grownBy w' (some b) :=
  (xrNum_re b s a e m w h.re hs hm).mono (by
    rintro e1 x ⟨rfl, hw, hb⟩
    exact ⟨_, _, _, rfl, rfl, (numR_le h0).1, (numR_le h0).2, ⟨hw, numR_at⟩, but_grown hb⟩)
theorem oxr_text (b : Nat) (s : ByteArray) (a e m : Int) (w : World) (h : OXR b s a e w) (hs : s.size ≤ 9223372036854775807) (h0 : 0 ≤ m) (hm : m ≤ 9223372036854775807) :
    Calls Tryz.prog 108 #[.pointer (some ⟨b, 0, none⟩), .int .i64 m] w fun e1 w' => ∃ t a' e', e1 = .returned (.string t) ∧ textR s a e m = (t, a', e') ∧ (t.size : Int) ≤ m ∧ OXR b s a' e' w' ∧ w.grownBy w' (some b) :=
  (xrText_re b s a e m w h.re hs hm).mono (by
    rintro e1 x ⟨rfl, hw, hb⟩
    exact ⟨_, _, _, rfl, rfl, textR_le h0, ⟨hw, textR_at⟩, but_grown hb⟩)
theorem oxr_flag (b : Nat) (s : ByteArray) (a e : Int) (w : World) (h : OXR b s a e w) (hs : s.size ≤ 9223372036854775807) :
    Calls Tryz.prog 107 #[.pointer (some ⟨b, 0, none⟩)] w fun e1 w' => ∃ f a' e', e1 = .returned (.bool f) ∧ flagR s a.toNat e = (f, a', e') ∧ OXR b s a' e' w' ∧ w.grownBy w' (some b) :=
  (xrFlag_re b s a.toNat e w h.nat.1 hs h.nat.2).mono (by
    rintro e1 x ⟨rfl, hw, hb⟩
    exact ⟨_, _, _, rfl, rfl, ⟨hw, flagR_at h.nat.2⟩, but_grown hb⟩)
theorem oxr_end (b : Nat) (s : ByteArray) (a e : Int) (w : World) (h : OXR b s a e w) (hs : s.size ≤ 9223372036854775807) :
    Calls Tryz.prog 53 #[.pointer (some ⟨b, 0, none⟩)] w fun e1 w' => ∃ r, e1 = .returned (.int .i64 r) ∧ endV s a.toNat e = r ∧ Below w.heap.size w w' :=
  (xend_re b s a.toNat e w h.nat.1 hs h.nat.2).mono (by
    rintro e1 x ⟨rfl, hb⟩
    exact ⟨_, rfl, rfl, hb⟩)
end
end Go.Proofs.YtcbagajjgbfgdaaGreat

/- Package ops: Check of both. Conditions: none. -/
namespace Go.Proofs.YtcbagajjgbfgdaaGreat
open Go.RowKit Go.PlainAid
set_option linter.unusedVariables false


abbrev OpT := ByteArray × ByteArray × Bool
def opE (o : OpT) : List Value := [.string o.1, .string o.2.1, .bool o.2.2]
theorem opE_len (o : OpT) : (opE o).length = 3 := rfl
theorem eq_op (a b d e : ByteArray) (c f : Bool) (w : World) : (binOp .eql 134 (.agg #[.string a, .string b, .bool c]) (.agg #[.string d, .string e, .bool f])).run Tryz.prog w = .ok (.bool (a.toList == d.toList && b.toList == e.toList && c == f)) w := by
  have u := Tryz.underlying9
  have u' := Tryz.underlying4
  have hS : Tryz.prog.underlying 134 = some (.struct (Tryz.prog.fieldsOf 134)) := by kernel_rfl
  have hp : Tryz.prog.stoodInHeld 134 = false := by kernel_rfl
  have hf : (Tryz.prog.fieldsOf 134).toList.map (fun f => (f.offset, f.type)) = [(0, 9), (1, 9), (2, 4)] := by kernel_rfl
  rw [run_eql_struct, show (10000 : Nat) = 9999 + 1 from rfl, run_equalIn_agg w 9999 134 _ _ hS hp]
  simp only [Program.fieldsOf, Tryz.underlying134]
  go_simp
  by_cases h1 : a.toList = d.toList <;> by_cases h2 : b.toList = e.toList <;> by_cases h3 : c = f <;> simp [h1, h2, h3]
theorem bl_flip : ∀ (x y : List UInt8), (Op.bytesLess x y || x == y) = !Op.bytesLess y x
  | [], [] => rfl
  | [], _ :: _ => rfl
  | _ :: _, [] => rfl
  | a :: x, b :: y => by
    have ih := bl_flip x y
    show ((decide (a < b) || (a == b && Op.bytesLess x y)) || (a == b && x == y)) = !(decide (b < a) || (b == a && Op.bytesLess y x))
    rcases Nat.lt_trichotomy a.toNat b.toNat with h | h | h
    · have h1 : a < b := h
      have h2 : ¬ b < a := fun q => by have : b.toNat < a.toNat := q; omega
      have h3 : ¬ b = a := fun q => by subst q; omega
      simp [h1, h2, h3]
    · have e : a = b := UInt8.toNat.inj h
      subst e
      have h2 : ¬ a < a := fun q => by have : a.toNat < a.toNat := q; omega
      simp [h2]; simpa using ih
    · have h1 : ¬ a < b := fun q => by have : a.toNat < b.toNat := q; omega
      have h2 : b < a := h
      have h3 : ¬ a = b := fun q => by subst q; omega
      simp [h1, h2, h3]
/-- What a key's check answers; an operation's; those of all, each key above the one ahead of it. -/
def keyC (k : ByteArray) : Int := if ((k.size : Nat) : Int) < 1 ∨ ((k.size : Nat) : Int) > 8 then 10 else 0
def delV (o : OpT) : Bool := o.2.2 && !(o.2.1.toList == (⟨#[]⟩ : ByteArray).toList)
theorem delV_t {o : OpT} {b : Bool} (h : o.2.2 = true) (h2 : (!(o.2.1.toList == (⟨#[]⟩ : ByteArray).toList)) = b) : delV o = b := by unfold delV; rw [h, h2]; rfl
theorem delV_f {o : OpT} (h : o.2.2 = false) : delV o = false := by unfold delV; rw [h]; rfl
def chkOp (o : OpT) : Int := if keyC o.1 ≠ 0 then keyC o.1 else if ((o.2.1.size : Nat) : Int) > 8 then 3 else if delV o = true then 4 else 0
def keyUp (p : Option ByteArray) (k : ByteArray) : Bool := match p with | some q => Op.bytesLess q.toList k.toList | none => true
def chkL : Option ByteArray → List OpT → Int
  | _, [] => 0
  | p, o :: r => if chkOp o ≠ 0 then chkOp o else if keyUp p o.1 = true then chkL (some o.1) r else 18
def prevK (l : List OpT) (i : Nat) : Option ByteArray := if i = 0 then none else (l[i - 1]?).map (·.1)
def chkB (c r : Int) (l : List OpT) : Int := if c < 0 ∨ c ≥ 3 then 1 else if r < 1 ∨ r > 1073741824 then 5 else if ((l.length : Nat) : Int) > 4 then 6 else chkL none l
theorem prevK_succ {l : List OpT} {i : Nat} {y : OpT} (h : l[i]? = some y) : prevK l (i + 1) = some y.1 := by simp [prevK, h]
theorem prevK_pos {l : List OpT} {i j : Nat} {y : OpT} (hj : j = i - 1) (h0 : 0 < i) (h : l[j]? = some y) : prevK l i = some y.1 := by
  subst hj; simp [prevK, h]; omega
theorem dropO_at {l : List OpT} {i : Nat} {y : OpT} (h : l[i]? = some y) : l.drop i = y :: l.drop (i + 1) := by
  obtain ⟨hi, rfl⟩ := List.getElem?_eq_some_iff.1 h
  exact List.drop_eq_getElem_cons hi
theorem takeO_at {α : Type} {l : List α} {i : Nat} {y : α} (h : l[i]? = some y) : l.take (i + 1) = l.take i ++ [y] := by
  rw [List.take_add_one, h]; rfl
theorem chkL_bad {l : List OpT} {i : Nat} {y : OpT} {z : Int} (h : chkL (prevK l i) (l.drop i) = z) (hy : l[i]? = some y) (hc : chkOp y ≠ 0) : chkOp y = z := by
  rw [dropO_at hy] at h; unfold chkL at h; rwa [if_pos hc] at h
theorem chkL_step {l : List OpT} {i : Nat} {y : OpT} {z : Int} (h : chkL (prevK l i) (l.drop i) = z) (hy : l[i]? = some y) (hc : chkOp y = 0) (hu : keyUp (prevK l i) y.1 = true) : chkL (prevK l (i + 1)) (l.drop (i + 1)) = z := by
  rw [dropO_at hy] at h; unfold chkL at h; rw [if_neg (by simp [hc]), if_pos hu] at h
  rw [prevK_succ hy]; exact h
theorem chkL_ord {l : List OpT} {i : Nat} {y : OpT} {z : Int} (h : chkL (prevK l i) (l.drop i) = z) (hy : l[i]? = some y) (hc : chkOp y = 0) (hu : keyUp (prevK l i) y.1 = false) : 18 = z := by
  rw [dropO_at hy] at h; unfold chkL at h; rwa [if_neg (by simp [hc]), if_neg (by simp [hu])] at h
theorem chkL_end {l : List OpT} {i : Nat} {z : Int} (h : chkL (prevK l i) (l.drop i) = z) (hi : l.length ≤ i) : 0 = z := by
  rw [List.drop_eq_nil_of_le hi] at h; simpa [chkL] using h
theorem keyUp_at {l : List OpT} {i j : Nat} {y y' : OpT} {b : Bool} (hj : j = i - 1) (h0 : 0 < i) (h : l[j]? = some y') (hb : Op.bytesLess y'.1.toList y.1.toList = b) : keyUp (prevK l i) y.1 = b := by rw [prevK_pos hj h0 h]; exact hb
theorem keyUp_flip {l : List OpT} {i j : Nat} {y y' : OpT} {b : Bool} (hj : j = i - 1) (h0 : 0 < i) (h : l[j]? = some y') (hb : (Op.bytesLess y.1.toList y'.1.toList || y.1.toList == y'.1.toList) = b) : keyUp (prevK l i) y.1 = !b := by
  rw [bl_flip] at hb; rw [prevK_pos hj h0 h]; rw [← hb]; simp [keyUp]
theorem keyUp_0 {l : List OpT} {i : Nat} {k : ByteArray} (h0 : ¬ (0 : Int) < i) : keyUp (prevK l i) k = true := by
  obtain rfl : i = 0 := by omega
  rfl
theorem chkB_a {c r z : Int} {l : List OpT} (hz : chkB c r l = z) (h : c < 0 ∨ c ≥ 3) : 1 = z := by unfold chkB at hz; rwa [if_pos h] at hz
theorem chkB_b {c r z : Int} {l : List OpT} (hz : chkB c r l = z) (h : ¬ (c < 0 ∨ c ≥ 3)) (h1 : r < 1 ∨ r > 1073741824) : 5 = z := by unfold chkB at hz; rwa [if_neg h, if_pos h1] at hz
theorem chkB_c {c r z : Int} {l : List OpT} (hz : chkB c r l = z) (h : ¬ (c < 0 ∨ c ≥ 3)) (h1 : ¬ (r < 1 ∨ r > 1073741824)) (h2 : ((l.length : Nat) : Int) > 4) : 6 = z := by unfold chkB at hz; rwa [if_neg h, if_neg h1, if_pos h2] at hz
theorem chkB_d {c r z : Int} {l : List OpT} (hz : chkB c r l = z) (h : ¬ (c < 0 ∨ c ≥ 3)) (h1 : ¬ (r < 1 ∨ r > 1073741824)) (h2 : ¬ ((l.length : Nat) : Int) > 4) : chkL (prevK l 0) (l.drop 0) = z := by unfold chkB at hz; rwa [if_neg h, if_neg h1, if_neg h2] at hz
theorem chkOp_a {o : OpT} (h : keyC o.1 ≠ 0) : chkOp o = keyC o.1 := by unfold chkOp; rw [if_pos h]
theorem chkOp_b {o : OpT} (h : ¬ keyC o.1 ≠ 0) (h1 : ((o.2.1.size : Nat) : Int) > 8) : chkOp o = 3 := by unfold chkOp; rw [if_neg h, if_pos h1]
theorem chkOp_c {o : OpT} (h : ¬ keyC o.1 ≠ 0) (h1 : ¬ ((o.2.1.size : Nat) : Int) > 8) (h2 : delV o = true) : chkOp o = 4 := by unfold chkOp; rw [if_neg h, if_neg h1, if_pos h2]
theorem chkOp_d {o : OpT} (h : ¬ keyC o.1 ≠ 0) (h1 : ¬ ((o.2.1.size : Nat) : Int) > 8) (h2 : delV o = false) : chkOp o = 0 := by unfold chkOp; rw [if_neg h, if_neg h1, if_neg (by simp [h2])]
theorem keyC_ten {k : ByteArray} (h : keyC k ≠ 0) : keyC k = 10 := by unfold keyC at h ⊢; split <;> simp_all
theorem keyC_ok {k : ByteArray} (h : keyC k = 0) : 1 ≤ k.size ∧ k.size ≤ 8 := by unfold keyC at h; split at h <;> omega
theorem chkOp_ok {o : OpT} (h : chkOp o = 0) : (1 ≤ o.1.size ∧ o.1.size ≤ 8) ∧ o.2.1.size ≤ 8 ∧ delV o = false := by
  unfold chkOp at h
  split at h
  · omega
  rename_i h1
  split at h
  · omega
  rename_i h2
  split at h
  · omega
  rename_i h3
  exact ⟨keyC_ok (by omega), by omega, by simpa using h3⟩
theorem chkL_all : ∀ (p : Option ByteArray) (l : List OpT), chkL p l = 0 → ∀ z ∈ l, chkOp z = 0
  | _, [], _, _, h => by cases h
  | p, o :: r, h, z, hz => by
    unfold chkL at h
    by_cases h1 : chkOp o ≠ 0
    · rw [if_pos h1] at h; exact absurd h h1
    · rw [if_neg h1] at h
      by_cases h2 : keyUp p o.1 = true
      · rw [if_pos h2] at h
        rcases List.mem_cons.1 hz with rfl | hz
        · omega
        · exact chkL_all _ r h z hz
      · rw [if_neg h2] at h; omega
theorem chkB_ok {c r : Int} {l : List OpT} (h : chkB c r l = 0) : (0 ≤ c ∧ c < 3) ∧ (1 ≤ r ∧ r ≤ 1073741824) ∧ l.length ≤ 4 ∧ chkL none l = 0 := by
  unfold chkB at h
  split at h
  · omega
  split at h
  · omega
  split at h
  · omega
  exact ⟨by omega, by omega, by omega, h⟩
def OpOk (z : OpT) : Prop := (1 ≤ z.1.size ∧ z.1.size ≤ 8) ∧ z.2.1.size ≤ 8 ∧ delV z = false
theorem chkB_all {c r : Int} {l : List OpT} (h : chkB c r l = 0) : ∀ z ∈ l, OpOk z := fun z hz => chkOp_ok (chkL_all _ l (chkB_ok h).2.2.2 z hz)

set_option maxRecDepth 100000 in
theorem pKey_any (k : ByteArray) (w : World)  :
    Calls Tryz.prog 119 #[.string k] w fun e w' => e = .returned (.int .i64 (keyC k)) ∧ Below w.heap.size w w' := by
 have hB0 := Below.refl w.heap.size w;refine co_enter (n := 11) Tryz.func119 rfl rfl rfl [(0, .string k)] rfl (fun a s => ?_);refine q2 ?_;refine pk0 (v := .int .i64 0) s rfl fun _ s => q6 ?_;refine pk0 (v := .string k) s rfl fun _ s => ?_;refine pk (v := .int .i64 (k.size : Int)) s rfl (rn_lenStr rfl rfl Tryz.underlying9) fun _ s => ?_;refine pk0 (v := .bool (decide ((k.size : Int) < 1))) s rfl fun _ s => ?_;refine pk0 (v := .bool (decide ((k.size : Int) < 1))) s rfl fun _ s => ?_;cases hc6 : (decide ((k.size : Int) < 1))
 ·
  rw [hc6] at s;have hp7 : ¬ ((k.size : Int) < 1) := of_decide_eq_false hc6;refine pk0 (v := .string k) s rfl fun _ s => ?_;refine pk (v := .int .i64 (k.size : Int)) s rfl (rn_lenStr rfl rfl Tryz.underlying9) fun _ s => ?_;refine pk0 (v := .bool (decide ((k.size : Int) > 8))) s rfl fun _ s => ?_;refine pk0 (v := .bool (decide ((k.size : Int) > 8))) s rfl fun _ s => q1 ?_;cases hc12 : (decide ((k.size : Int) > 8))
  ·
   rw [hc12] at s;have hp13 : ¬ ((k.size : Int) > 8) := of_decide_eq_false hc12;refine co_false s rfl <| q7 ?_;refine pk0 (v := .int .i64 0) s rfl fun _ s => q4 ?_;refine co_ret1 s rfl rfl ?_;exact ⟨ret_int (by unfold keyC; first | rw [if_pos (by omega)] | rw [if_neg (by omega)]), hB0⟩
  rw [hc12] at s;have hp15 : (k.size : Int) > 8 := of_decide_eq_true hc12;refine co_true s rfl <| q2 ?_;refine pk0 (v := .int .i64 10) s rfl fun _ s => q5 ?_;refine co_ret1 s rfl rfl ?_;exact ⟨ret_int (by unfold keyC; first | rw [if_pos (by omega)] | rw [if_neg (by omega)]), hB0⟩
 rw [hc6] at s;have hp17 : (k.size : Int) < 1 := of_decide_eq_true hc6;refine psk s rfl fun _ s => ?_;refine psk s rfl fun _ s => ?_;refine psk s rfl fun _ s => ?_;refine pk0 (v := .bool true) s rfl fun _ s => q1 ?_;refine co_true s rfl <| q2 ?_;refine pk0 (v := .int .i64 10) s rfl fun _ s => q5 ?_;refine co_ret1 s rfl rfl ?_;exact ⟨ret_int (by unfold keyC; first | rw [if_pos (by omega)] | rw [if_neg (by omega)]), hB0⟩
set_option maxRecDepth 100000 in
theorem rKey_any (k : ByteArray) (w : World)  :
    Calls Tryz.prog 120 #[.string k] w fun e w' => e = .returned (.int .i64 (keyC k)) ∧ Below w.heap.size w w' := by
 have hB0 := Below.refl w.heap.size w;refine co_enter (n := 11) Tryz.func120 rfl rfl rfl [(0, .string k)] rfl (fun a s => ?_);refine q2 ?_;refine pk0 (v := .int .i64 0) s rfl fun _ s => q6 ?_;refine pk0 (v := .string k) s rfl fun _ s => ?_;refine pk (v := .int .i64 (k.size : Int)) s rfl (rn_lenStr rfl rfl Tryz.underlying9) fun _ s => ?_;refine pk0 (v := .bool (decide ((k.size : Int) < 1))) s rfl fun _ s => ?_;refine pk0 (v := .bool (decide ((k.size : Int) < 1))) s rfl fun _ s => ?_;cases hc6 : (decide ((k.size : Int) < 1))
 ·
  rw [hc6] at s;have hp7 : ¬ ((k.size : Int) < 1) := of_decide_eq_false hc6;refine pk0 (v := .string k) s rfl fun _ s => ?_;refine pk (v := .int .i64 (k.size : Int)) s rfl (rn_lenStr rfl rfl Tryz.underlying9) fun _ s => ?_;refine pk0 (v := .bool (decide ((k.size : Int) > 8))) s rfl fun _ s => ?_;refine pk0 (v := .bool (decide ((k.size : Int) > 8))) s rfl fun _ s => q1 ?_;cases hc12 : (decide ((k.size : Int) > 8))
  ·
   rw [hc12] at s;have hp13 : ¬ ((k.size : Int) > 8) := of_decide_eq_false hc12;refine co_false s rfl <| q7 ?_;refine pk0 (v := .int .i64 0) s rfl fun _ s => q4 ?_;refine co_ret1 s rfl rfl ?_;exact ⟨ret_int (by unfold keyC; first | rw [if_pos (by omega)] | rw [if_neg (by omega)]), hB0⟩
  rw [hc12] at s;have hp15 : (k.size : Int) > 8 := of_decide_eq_true hc12;refine co_true s rfl <| q2 ?_;refine pk0 (v := .int .i64 10) s rfl fun _ s => q5 ?_;refine co_ret1 s rfl rfl ?_;exact ⟨ret_int (by unfold keyC; first | rw [if_pos (by omega)] | rw [if_neg (by omega)]), hB0⟩
 rw [hc6] at s;have hp17 : (k.size : Int) < 1 := of_decide_eq_true hc6;refine psk s rfl fun _ s => ?_;refine psk s rfl fun _ s => ?_;refine psk s rfl fun _ s => ?_;refine pk0 (v := .bool true) s rfl fun _ s => q1 ?_;refine co_true s rfl <| q2 ?_;refine pk0 (v := .int .i64 10) s rfl fun _ s => q5 ?_;refine co_ret1 s rfl rfl ?_;exact ⟨ret_int (by unfold keyC; first | rw [if_pos (by omega)] | rw [if_neg (by omega)]), hB0⟩
set_option maxRecDepth 100000 in
theorem chkOp_any (o : OpT) (w : World)  :
    Calls Tryz.prog 118 #[.agg #[.string o.1, .string o.2.1, .bool o.2.2]] w fun e w' => e = .returned (.int .i64 (chkOp o)) ∧ Below w.heap.size w w' := by
 have hB0 := Below.refl w.heap.size w;refine co_enter (n := 21) Tryz.func118 rfl rfl rfl [(0, .agg #[.string o.1, .string o.2.1, .bool o.2.2])] rfl (fun a s => ?_);refine q2 ?_;refine pw s rfl (op_new (v := fun N => pt N 0) (T := 134) (cs := #[.string o.1, .string o.2.1, .bool o.2.2]) (by kernel_rfl) (by kernel_rfl) (by kernel_rfl)) ?_;rintro _ w2 a1 ⟨N3, rfl, hN6, hz7, hk5, hg4⟩ s;have hz8 := hg4.size
 try dsimp only at s
 refine pk0 (v := .int .i64 0) s rfl fun _ s => q6 ?_;refine pk0 (v := pt N3 0) s rfl fun _ s => ?_;refine pk (v := .string o.1) s rfl (rn_load1 rfl rfl Tryz.isAgg9 (hk5.cell rfl)) fun _ s => ?_;refine pw s rfl (op_call (args := #[.string o.1]) (R := fun res xw => res = .int .i64 (keyC o.1) ∧ Below w2.heap.size w2 xw) rfl rfl rfl (by kernel_rfl) (by kernel_rfl) (Tryz.call119 _ _) (pKey_any o.1 w2 ) (by rintro e x ⟨rfl, hb14⟩; exact ⟨_, rfl, ⟨rfl, hb14⟩⟩)) ?_;rintro _ w13 a12 ⟨rfl, hb14⟩ s;have hz15 := hb14.size;refine pk0 (v := .int .i64 (keyC o.1)) s rfl fun _ s => q3 ?_;refine pk0 (v := .int .i64 (keyC o.1)) s rfl fun _ s => ?_;refine pk0 (v := .bool (keyC o.1 != 0)) s rfl fun _ s => q1 ?_;have hB20 := hb_new hB0 hg4;have hB21 := hb_call hB20 hb14;cases hc19 : (keyC o.1 != 0)
 ·
  rw [hc19] at s;have hp22 : ¬ (keyC o.1 ≠ 0) := by first | simpa using hc19 | simpa [and_assoc] using hc19
  refine co_false s rfl <| q8 ?_;refine pk0 (v := pt N3 1) s rfl fun _ s => ?_;have hk24 := hk5.below hb14;refine pk (v := .string o.2.1) s rfl (rn_load1 rfl rfl Tryz.isAgg9 (hk24.cell rfl)) fun _ s => ?_;refine pk (v := .int .i64 (o.2.1.size : Int)) s rfl (rn_lenStr rfl rfl Tryz.underlying9) fun _ s => ?_;refine pk0 (v := .bool (decide ((o.2.1.size : Int) > 8))) s rfl fun _ s => q1 ?_;cases hc28 : (decide ((o.2.1.size : Int) > 8))
  ·
   rw [hc28] at s;have hp29 : ¬ ((o.2.1.size : Int) > 8) := of_decide_eq_false hc28;refine co_false s rfl <| q8 ?_;refine pk0 (v := pt N3 2) s rfl fun _ s => ?_;refine pk (v := .bool o.2.2) s rfl (rn_load1 rfl rfl Tryz.isAgg4 (hk24.cell rfl)) fun _ s => ?_;refine pk0 (v := .bool o.2.2) s rfl fun _ s => ?_;cases hc33 : (o.2.2)
   ·
    rw [hc33] at s;refine psk s rfl fun _ s => ?_;refine psk s rfl fun _ s => ?_;refine psk s rfl fun _ s => ?_;refine pk0 (v := .bool false) s rfl fun _ s => q1 ?_;refine co_false s rfl <| q7 ?_;refine pk0 (v := .int .i64 0) s rfl fun _ s => q4 ?_;refine co_ret1 s rfl rfl ?_;exact ⟨ret_int (by first | exact (chkOp_a (by assumption)).symm | exact (chkOp_b (by assumption) (by assumption)).symm | exact (chkOp_c (by assumption) (by assumption) (by first | exact delV_t (by assumption) (by assumption) | exact delV_f (by assumption))).symm | exact (chkOp_d (by assumption) (by assumption) (by first | exact delV_t (by assumption) (by assumption) | exact delV_f (by assumption))).symm), hB21⟩
   rw [hc33] at s;refine pk0 (v := pt N3 1) s rfl fun _ s => ?_;refine pk (v := .string o.2.1) s rfl (rn_load1 rfl rfl Tryz.isAgg9 (hk24.cell rfl)) fun _ s => ?_;refine pk0 (v := .bool (!(o.2.1.toList == (⟨#[]⟩ : ByteArray).toList))) s rfl fun _ s => ?_;refine pk0 (v := .bool (!(o.2.1.toList == (⟨#[]⟩ : ByteArray).toList))) s rfl fun _ s => q1 ?_;cases hc43 : (!(o.2.1.toList == (⟨#[]⟩ : ByteArray).toList))
   ·
    rw [hc43] at s;refine co_false s rfl <| q7 ?_;refine pk0 (v := .int .i64 0) s rfl fun _ s => q4 ?_;refine co_ret1 s rfl rfl ?_;exact ⟨ret_int (by first | exact (chkOp_a (by assumption)).symm | exact (chkOp_b (by assumption) (by assumption)).symm | exact (chkOp_c (by assumption) (by assumption) (by first | exact delV_t (by assumption) (by assumption) | exact delV_f (by assumption))).symm | exact (chkOp_d (by assumption) (by assumption) (by first | exact delV_t (by assumption) (by assumption) | exact delV_f (by assumption))).symm), hB21⟩
   rw [hc43] at s;refine co_true s rfl <| q2 ?_;refine pk0 (v := .int .i64 4) s rfl fun _ s => q5 ?_;refine co_ret1 s rfl rfl ?_;exact ⟨ret_int (by first | exact (chkOp_a (by assumption)).symm | exact (chkOp_b (by assumption) (by assumption)).symm | exact (chkOp_c (by assumption) (by assumption) (by first | exact delV_t (by assumption) (by assumption) | exact delV_f (by assumption))).symm | exact (chkOp_d (by assumption) (by assumption) (by first | exact delV_t (by assumption) (by assumption) | exact delV_f (by assumption))).symm), hB21⟩
  rw [hc28] at s;have hp46 : (o.2.1.size : Int) > 8 := of_decide_eq_true hc28;refine co_true s rfl <| q2 ?_;refine pk0 (v := .int .i64 3) s rfl fun _ s => q5 ?_;refine co_ret1 s rfl rfl ?_;exact ⟨ret_int (by first | exact (chkOp_a (by assumption)).symm | exact (chkOp_b (by assumption) (by assumption)).symm | exact (chkOp_c (by assumption) (by assumption) (by first | exact delV_t (by assumption) (by assumption) | exact delV_f (by assumption))).symm | exact (chkOp_d (by assumption) (by assumption) (by first | exact delV_t (by assumption) (by assumption) | exact delV_f (by assumption))).symm), hB21⟩
 rw [hc19] at s;have hp48 : keyC o.1 ≠ 0 := by first | simpa using hc19 | simpa [and_assoc] using hc19
 refine co_true s rfl <| q2 ?_;refine pk0 (v := .int .i64 (keyC o.1)) s rfl fun _ s => ?_;refine pk0 (v := .int .i64 (keyC o.1)) s rfl fun _ s => q5 ?_;refine co_ret1 s rfl rfl ?_;exact ⟨ret_int (by first | exact (chkOp_a (by assumption)).symm | exact (chkOp_b (by assumption) (by assumption)).symm | exact (chkOp_c (by assumption) (by assumption) (by first | exact delV_t (by assumption) (by assumption) | exact delV_f (by assumption))).symm | exact (chkOp_d (by assumption) (by assumption) (by first | exact delV_t (by assumption) (by assumption) | exact delV_f (by assumption))).symm), hB21⟩
set_option maxRecDepth 100000 in
theorem opsCheck_any (c : Int) (r : Int) (v : Value) (l : List OpT) (w : World) (hs : SliceOf opE 3 w v l) :
    Calls Tryz.prog 72 #[.agg #[.int .i64 c, .int .i64 r, v]] w fun e w' => e = .returned (.int .i64 (chkB c r l)) ∧ Below w.heap.size w w' := by
 have hB0 := Below.refl w.heap.size w;have hl_hs := sl_len hs;refine co_enter (n := 54) Tryz.func72 rfl rfl rfl [(0, .agg #[.int .i64 c, .int .i64 r, v])] rfl (fun a s => ?_);refine q2 ?_;refine pw s rfl (op_new (v := fun N => pt N 0) (T := 29) (cs := #[.int .i64 c, .int .i64 r, v]) (by kernel_rfl) (by kernel_rfl) (by kernel_rfl)) ?_;rintro _ w2 a1 ⟨N3, rfl, hN6, hz7, hk5, hg4⟩ s;have hz8 := hg4.size
 try dsimp only at s
 refine pk0 (v := .int .i64 0) s rfl fun _ s => q6 ?_;refine pk0 (v := pt N3 0) s rfl fun _ s => ?_;refine pk (v := .int .i64 c) s rfl (rn_load1 rfl rfl Tryz.isAgg3 (hk5.cell rfl)) fun _ s => ?_;refine pk0 (v := .bool (decide (c < 0))) s rfl fun _ s => ?_;refine pk0 (v := .bool (decide (c < 0))) s rfl fun _ s => ?_;have hB15 := hb_new hB0 hg4;cases hc14 : (decide (c < 0))
 ·
  rw [hc14] at s;have hp16 : ¬ (c < 0) := of_decide_eq_false hc14;refine pk0 (v := pt N3 0) s rfl fun _ s => ?_;refine pk (v := .int .i64 c) s rfl (rn_load1 rfl rfl Tryz.isAgg3 (hk5.cell rfl)) fun _ s => ?_;refine pk0 (v := .bool (decide (c ≥ 3))) s rfl fun _ s => ?_;refine pk0 (v := .bool (decide (c ≥ 3))) s rfl fun _ s => q1 ?_;cases hc21 : (decide (c ≥ 3))
  ·
   rw [hc21] at s;have hp22 : ¬ (c ≥ 3) := of_decide_eq_false hc21;refine co_false s rfl <| q8 ?_;refine pk0 (v := pt N3 1) s rfl fun _ s => ?_;refine pk (v := .int .i64 r) s rfl (rn_load1 rfl rfl Tryz.isAgg3 (hk5.cell rfl)) fun _ s => ?_;refine pk0 (v := .bool (decide (r < 1))) s rfl fun _ s => ?_;refine pk0 (v := .bool (decide (r < 1))) s rfl fun _ s => ?_;cases hc27 : (decide (r < 1))
   ·
    rw [hc27] at s;have hp28 : ¬ (r < 1) := of_decide_eq_false hc27;refine pk0 (v := pt N3 1) s rfl fun _ s => ?_;refine pk (v := .int .i64 r) s rfl (rn_load1 rfl rfl Tryz.isAgg3 (hk5.cell rfl)) fun _ s => ?_;refine pk0 (v := .bool (decide (r > 1073741824))) s rfl fun _ s => ?_;refine pk0 (v := .bool (decide (r > 1073741824))) s rfl fun _ s => q1 ?_;cases hc33 : (decide (r > 1073741824))
    ·
     rw [hc33] at s;have hp34 : ¬ (r > 1073741824) := of_decide_eq_false hc33;refine co_false s rfl <| q8 ?_;refine pk0 (v := pt N3 2) s rfl fun _ s => ?_;refine pk (v := v) s rfl (rn_load1 rfl rfl Tryz.isAgg27 (hk5.cell rfl)) fun _ s => ?_;refine pk (v := .int .i64 (l.length : Int)) s rfl (rn_len rfl rfl Tryz.underlying27 (hs.below hB15)) fun _ s => ?_;refine pk0 (v := .bool (decide ((l.length : Int) > 4))) s rfl fun _ s => q1 ?_;cases hc39 : (decide ((l.length : Int) > 4))
     ·
      rw [hc39] at s;have hp40 : ¬ ((l.length : Int) > 4) := of_decide_eq_false hc39;refine co_false s rfl <| q8 ?_;refine pk0 (v := pt N3 2) s rfl fun _ s => ?_;refine pk (v := v) s rfl (rn_load1 rfl rfl Tryz.isAgg27 (hk5.cell rfl)) fun _ s => ?_;refine pk (v := .int .i64 (l.length : Int)) s rfl (rn_len rfl rfl Tryz.underlying27 (hs.below hB15)) fun _ s => ?_;refine pk0 (v := .int .i64 0) s rfl fun _ s => q1 <| wp_block ?_;have s : Slots 54 [(1, pt N3 0), (2, .int .i64 0), (27, v), (28, .int .i64 (l.length : Int)), (29, .int .i64 0)] _ := s.sub ⟨rfl, rfl, rfl, rfl, rfl, trivial⟩;refine co_loop (fun mm a x => ∃ (i : Nat), Slots 54 [(1, pt N3 0), (2, .int .i64 0), (27, v), (28, .int .i64 (l.length : Int)), (29, .int .i64 (i : Int))] a ∧ mm = l.length - i ∧ (i ≤ l.length) ∧ (chkL (prevK l i) (l.drop i) = chkB c r l) ∧ Below w.heap.size w x ∧ Blk x N3 29 #[.int .i64 c, .int .i64 r, v]) (l.length - 0) ?_ ?_
      · exact ⟨0, s.sub ⟨rfl, rfl, rfl, rfl, (slot_eq rfl (congrArg (Value.int .i64) (by first | rfl | omega))), trivial⟩, rfl, by omega, by first | exact chkB_d rfl (by omega) (by omega) (by omega) | exact hL', hB15, hk5⟩
      · rintro k46 a47 w48 ⟨i, s, rfl, hi49, hi50, hB51, hk52⟩
        have hz53 := hB51.size;have hl54 := hk52.lt;have hL : chkL (prevK l i) (l.drop i) = chkB c r l := by assumption
        refine q2 ?_;refine pk0 (v := .bool (decide ((i : Int) < (l.length : Int)))) s rfl fun _ s => q1 <| co_seq ?_;cases hc56 : (decide ((i : Int) < (l.length : Int)))
        ·
         rw [hc56] at s;have hp57 : ¬ ((i : Int) < (l.length : Int)) := of_decide_eq_false hc56;refine co_false s rfl <| wp_exit <| co_thenX <| co_thenX <| qx <| q2 ?_;refine pk0 (v := .int .i64 0) s rfl fun _ s => q4 ?_;refine co_ret1 s rfl rfl ?_;exact ⟨ret_int (chkL_end (i := i) hL (by omega)), hB51⟩
        rw [hc56] at s;have hp59 : (i : Int) < (l.length : Int) := of_decide_eq_true hc56;refine co_true s rfl <| q0 <| co_seq <| wp_block <| q2 ?_;refine pk0 (v := .int .i64 (i : Int)) s rfl fun _ s => ?_;obtain ⟨y61, hy61⟩ : ∃ z, l[i]? = some z := ⟨_, List.getElem?_eq_getElem (by first | omega | (simp; done) | (simp; omega))⟩;refine pk (v := pt (blkOf v) (offOf v + i * 3)) s rfl (rn_index rfl rfl rfl Tryz.underlying27 Tryz.sizeOf134 (hs.below hB51) (by omega) (by first | omega | (simp; done) | (simp; omega))) fun _ s => ?_;refine pk (v := .agg #[.string y61.1, .string y61.2.1, .bool y61.2.2]) s rfl (rn_loadN rfl rfl Tryz.underlying134 rfl (by kernel_rfl) (sl_at (hs.below hB51) hy61)) fun _ s => ?_;refine pw s rfl (op_new (v := fun N => pt N 0) (T := 134) (cs := #[.string (⟨#[]⟩), .string (⟨#[]⟩), .bool false]) (by kernel_rfl) (by kernel_rfl) (by kernel_rfl)) ?_;rintro _ w65 a64 ⟨N66, rfl, hN69, hz70, hk68, hg67⟩ s;have hz71 := hg67.size
        try dsimp only at s
        refine pk0 (v := .int .i64 (i : Int)) s rfl fun _ s => ?_;refine pwD s rfl (op_storeN rfl rfl rfl (by kernel_rfl) (by kernel_rfl) hk68 rfl) ?_;rintro _ w74 a73 ⟨hk75, hz76, hg77⟩ s;have hk75' : Blk w74 N66 134 #[.string y61.1, .string y61.2.1, .bool y61.2.2] := hk75;have hz78 := hg77.size;refine q6 ?_;refine pk (v := .agg #[.string y61.1, .string y61.2.1, .bool y61.2.2]) s rfl (rn_loadN rfl rfl Tryz.underlying134 rfl (by kernel_rfl) hk75'.all) fun _ s => ?_;refine pw s rfl (op_call (args := #[.agg #[.string y61.1, .string y61.2.1, .bool y61.2.2]]) (R := fun res xw => res = .int .i64 (chkOp y61) ∧ Below w74.heap.size w74 xw) rfl rfl rfl (by kernel_rfl) (by kernel_rfl) (Tryz.call118 _ _) (chkOp_any y61 w74 ) (by rintro e x ⟨rfl, hb82⟩; exact ⟨_, rfl, ⟨rfl, hb82⟩⟩)) ?_;rintro _ w81 a80 ⟨rfl, hb82⟩ s;have hz83 := hb82.size;refine pk0 (v := .int .i64 (chkOp y61)) s rfl fun _ s => q3 ?_;refine pk0 (v := .int .i64 (chkOp y61)) s rfl fun _ s => ?_;refine pk0 (v := .bool (chkOp y61 != 0)) s rfl fun _ s => q1 ?_;have hB88 := hb_new hB51 hg67;have hB89 := hb_at hB88 hg77 (by omega);have hB90 := hb_call hB89 hb82;have hk91 := hk52.kept hg67 (by simp);have hk92 := hk91.kept hg77 (by simp; omega);have hk93 := hk92.below hb82;cases hc87 : (chkOp y61 != 0)
        ·
         rw [hc87] at s;have hp94 : ¬ (chkOp y61 ≠ 0) := by first | simpa using hc87 | simpa [and_assoc] using hc87
         refine co_false s rfl <| q0 <| co_seq ?_;refine dr_eq (by kernel_rfl) (fun w95 hg96 => ?_);have hz97 := hg96.size;refine dk0 0 (v := .int .i64 (i : Int)) s rfl rfl rfl fun _ s => ?_;refine dk0 1 (v := .bool (decide ((i : Int) > 0))) s rfl rfl rfl fun _ s => ?_;refine dk0 2 (v := .bool (decide ((i : Int) > 0))) s rfl rfl rfl fun _ s => ?_;have hB102 := hb_new hB90 hg96;have hk103 := hk75'.below hb82;have hk104 := hk103.kept hg96 (by simp);cases hc101 : (decide ((i : Int) > 0))
         ·
          rw [hc101] at s;have hp105 : ¬ ((i : Int) > 0) := of_decide_eq_false hc101;refine dsk 3 s rfl rfl rfl fun _ s => ?_;refine dsk 4 s rfl rfl rfl fun _ s => ?_;refine dsk 5 s rfl rfl rfl fun _ s => ?_;refine dsk 6 s rfl rfl rfl fun _ s => ?_;refine dsk 7 s rfl rfl rfl fun _ s => ?_;refine dsk 8 s rfl rfl rfl fun _ s => ?_;refine dsk 9 s rfl rfl rfl fun _ s => ?_;refine dsk 10 s rfl rfl rfl fun _ s => ?_;refine dsk 11 s rfl rfl rfl fun _ s => ?_;refine dsk 12 s rfl rfl rfl fun _ s => ?_;refine dk0 13 (v := .bool false) s rfl rfl rfl fun _ s => ?_;refine dr_done (by kernel_rfl) ?_;refine co_then ?_;refine co_false s rfl <| wp_skip <| co_blockN <| co_then <| co_reg ?_;refine pk (v := .int .i64 ((i + 1 : Nat) : Int)) s rfl (rn_arith' rfl rfl rfl rfl rfl rfl (IntWalk.i64_in _ (by omega)) (by omega)) fun _ s => ?_;refine pk0 (v := .int .i64 ((i + 1 : Nat) : Int)) s rfl fun _ s => q1 ?_;refine ⟨(l.length - (i + 1)), by omega, ?_⟩;have hO : chkOp y61 = 0 := by omega
          have hU : keyUp (prevK l i) y61.1 = true := (keyUp_0 (by omega));have hL' := chkL_step (i := i) hL hy61 hO hU;have hk119 := hk93.kept hg96 (by simp);exact ⟨i + 1, s.sub ⟨rfl, rfl, rfl, rfl, rfl, trivial⟩, rfl, by omega, by first | exact chkB_d rfl (by omega) (by omega) (by omega) | exact hL', hB102, hk119⟩
         rw [hc101] at s;have hp120 : (i : Int) > 0 := of_decide_eq_true hc101;refine dk0 3 (v := pt N66 0) s rfl rfl rfl fun _ s => ?_;refine dk 4 (v := .string y61.1) s rfl rfl rfl (fun x hx => by subst hx; exact (rn_load1 rfl rfl Tryz.isAgg9 (hk104.cell rfl))) fun _ s => ?_;refine dk0 5 (v := pt N3 2) s rfl rfl rfl fun _ s => ?_;have hk124 := hk93.kept hg96 (by simp);refine dk 6 (v := v) s rfl rfl rfl (fun x hx => by subst hx; exact (rn_load1 rfl rfl Tryz.isAgg27 (hk124.cell rfl))) fun _ s => ?_;refine dk0 7 (v := .int .i64 (i : Int)) s rfl rfl rfl fun _ s => ?_;refine dk 8 (v := .int .i64 ((i : Int) - 1)) s rfl rfl rfl (fun x hx => by subst hx; exact (rn_arith rfl rfl rfl rfl rfl rfl (IntWalk.i64_in _ (by omega)))) fun _ s => ?_;obtain ⟨y128, hy128⟩ : ∃ z, l[((i : Int) - 1).toNat]? = some z := ⟨_, List.getElem?_eq_getElem (by first | omega | (simp; done) | (simp; omega))⟩;refine dk 9 (v := pt (blkOf v) (offOf v + (((i : Int) - 1).toNat) * 3)) s rfl rfl rfl (fun x hx => by subst hx; exact (rn_index rfl rfl rfl Tryz.underlying27 Tryz.sizeOf134 (hs.below hB102) (by omega) (by first | omega | (simp; done) | (simp; omega)))) fun _ s => ?_;refine dk0 10 (v := pt (blkOf v) (offOf v + (((i : Int) - 1).toNat) * 3)) s rfl rfl rfl fun _ s => ?_;refine dk 11 (v := .string y128.1) s rfl rfl rfl (fun x hx => by subst hx; exact (rn_load1 rfl rfl Tryz.isAgg9 ((sl_at (hs.below hB102) hy128) 0 _ rfl))) fun _ s => ?_;refine dk0 12 (v := .bool (Op.bytesLess y61.1.toList y128.1.toList || y61.1.toList == y128.1.toList)) s rfl rfl rfl fun _ s => ?_;refine dk0 13 (v := .bool (Op.bytesLess y61.1.toList y128.1.toList || y61.1.toList == y128.1.toList)) s rfl rfl rfl fun _ s => ?_;refine dr_done (by kernel_rfl) ?_;refine co_then ?_;cases hc134 : ((Op.bytesLess y61.1.toList y128.1.toList || y61.1.toList == y128.1.toList))
         ·
          rw [hc134] at s;refine co_false s rfl <| wp_skip <| co_blockN <| co_then <| co_reg ?_;refine pk (v := .int .i64 ((i + 1 : Nat) : Int)) s rfl (rn_arith' rfl rfl rfl rfl rfl rfl (IntWalk.i64_in _ (by omega)) (by omega)) fun _ s => ?_;refine pk0 (v := .int .i64 ((i + 1 : Nat) : Int)) s rfl fun _ s => q1 ?_;refine ⟨(l.length - (i + 1)), by omega, ?_⟩;have hO : chkOp y61 = 0 := by omega
          have hU : keyUp (prevK l i) y61.1 = true := (keyUp_flip (l := l) (i := i) (b := false) (y := y61) (j := ((i : Int) - 1).toNat) (by omega) (by omega) hy128 (by assumption));have hL' := chkL_step (i := i) hL hy61 hO hU;exact ⟨i + 1, s.sub ⟨rfl, rfl, rfl, rfl, rfl, trivial⟩, rfl, by omega, by first | exact chkB_d rfl (by omega) (by omega) (by omega) | exact hL', hB102, hk124⟩
         rw [hc134] at s;refine co_true s rfl <| q2 ?_;refine pk0 (v := .int .i64 18) s rfl fun _ s => q4 <| qr <| co_thenR <| qr ?_;refine co_ret1 s rfl rfl ?_;have hO : chkOp y61 = 0 := by omega
         exact ⟨ret_int (chkL_ord (i := i) hL hy61 hO (keyUp_flip (l := l) (i := i) (b := true) (y := y61) (j := ((i : Int) - 1).toNat) (by omega) (by omega) hy128 (by assumption))), hB102⟩
        rw [hc87] at s;have hp138 : chkOp y61 ≠ 0 := by first | simpa using hc87 | simpa [and_assoc] using hc87
        refine co_true s rfl <| q2 ?_;refine pk0 (v := .int .i64 (chkOp y61)) s rfl fun _ s => ?_;refine pk0 (v := .int .i64 (chkOp y61)) s rfl fun _ s => q5 <| qr <| co_thenR <| qr ?_;refine co_ret1 s rfl rfl ?_;exact ⟨ret_int (chkL_bad (i := i) hL hy61 (by assumption)), hB90⟩
     rw [hc39] at s;have hp141 : (l.length : Int) > 4 := of_decide_eq_true hc39;refine co_true s rfl <| q2 ?_;refine pk0 (v := .int .i64 6) s rfl fun _ s => q5 ?_;refine co_ret1 s rfl rfl ?_;exact ⟨ret_int (chkB_c rfl (by omega) (by omega) (by omega)), hB15⟩
    rw [hc33] at s;have hp143 : r > 1073741824 := of_decide_eq_true hc33;refine co_true s rfl <| q2 ?_;refine pk0 (v := .int .i64 5) s rfl fun _ s => q5 ?_;refine co_ret1 s rfl rfl ?_;exact ⟨ret_int (chkB_b rfl (by omega) (by omega)), hB15⟩
   rw [hc27] at s;have hp145 : r < 1 := of_decide_eq_true hc27;refine psk s rfl fun _ s => ?_;refine psk s rfl fun _ s => ?_;refine psk s rfl fun _ s => ?_;refine pk0 (v := .bool true) s rfl fun _ s => q1 ?_;refine co_true s rfl <| q2 ?_;refine pk0 (v := .int .i64 5) s rfl fun _ s => q5 ?_;refine co_ret1 s rfl rfl ?_;exact ⟨ret_int (chkB_b rfl (by omega) (by omega)), hB15⟩
  rw [hc21] at s;have hp151 : c ≥ 3 := of_decide_eq_true hc21;refine co_true s rfl <| q2 ?_;refine pk0 (v := .int .i64 1) s rfl fun _ s => q5 ?_;refine co_ret1 s rfl rfl ?_;exact ⟨ret_int (chkB_a rfl (by omega)), hB15⟩
 rw [hc14] at s;have hp153 : c < 0 := of_decide_eq_true hc14;refine psk s rfl fun _ s => ?_;refine psk s rfl fun _ s => ?_;refine psk s rfl fun _ s => ?_;refine pk0 (v := .bool true) s rfl fun _ s => q1 ?_;refine co_true s rfl <| q2 ?_;refine pk0 (v := .int .i64 1) s rfl fun _ s => q5 ?_;refine co_ret1 s rfl rfl ?_;exact ⟨ret_int (chkB_a rfl (by omega)), hB15⟩
set_option maxRecDepth 100000 in
theorem ropsCheck_any (c : Int) (r : Int) (v : Value) (l : List OpT) (w : World) (hs : SliceOf opE 3 w v l) :
    Calls Tryz.prog 80 #[.agg #[.int .i64 c, .int .i64 r, v]] w fun e w' => e = .returned (.int .i64 (chkB c r l)) ∧ Below w.heap.size w w' := by
 have hB0 := Below.refl w.heap.size w;have hl_hs := sl_len hs;refine co_enter (n := 66) Tryz.func80 rfl rfl rfl [(0, .agg #[.int .i64 c, .int .i64 r, v])] rfl (fun a s => ?_);refine q2 ?_;refine pw s rfl (op_new (v := fun N => pt N 0) (T := 29) (cs := #[.int .i64 c, .int .i64 r, v]) (by kernel_rfl) (by kernel_rfl) (by kernel_rfl)) ?_;rintro _ w2 a1 ⟨N3, rfl, hN6, hz7, hk5, hg4⟩ s;have hz8 := hg4.size
 try dsimp only at s
 refine pk0 (v := .int .i64 0) s rfl fun _ s => q6 ?_;refine pk0 (v := pt N3 0) s rfl fun _ s => ?_;refine pk (v := .int .i64 c) s rfl (rn_load1 rfl rfl Tryz.isAgg3 (hk5.cell rfl)) fun _ s => ?_;refine pk0 (v := .bool (decide (c < 0))) s rfl fun _ s => ?_;refine pk0 (v := .bool (decide (c < 0))) s rfl fun _ s => ?_;have hB15 := hb_new hB0 hg4;cases hc14 : (decide (c < 0))
 ·
  rw [hc14] at s;have hp16 : ¬ (c < 0) := of_decide_eq_false hc14;refine pk0 (v := pt N3 0) s rfl fun _ s => ?_;refine pk (v := .int .i64 c) s rfl (rn_load1 rfl rfl Tryz.isAgg3 (hk5.cell rfl)) fun _ s => ?_;refine pk0 (v := .bool (decide (c ≥ 3))) s rfl fun _ s => ?_;refine pk0 (v := .bool (decide (c ≥ 3))) s rfl fun _ s => q1 ?_;cases hc21 : (decide (c ≥ 3))
  ·
   rw [hc21] at s;have hp22 : ¬ (c ≥ 3) := of_decide_eq_false hc21;refine co_false s rfl <| q8 ?_;refine pk0 (v := pt N3 1) s rfl fun _ s => ?_;refine pk (v := .int .i64 r) s rfl (rn_load1 rfl rfl Tryz.isAgg3 (hk5.cell rfl)) fun _ s => ?_;refine pk0 (v := .bool (decide (r < 1))) s rfl fun _ s => ?_;refine pk0 (v := .bool (decide (r < 1))) s rfl fun _ s => ?_;cases hc27 : (decide (r < 1))
   ·
    rw [hc27] at s;have hp28 : ¬ (r < 1) := of_decide_eq_false hc27;refine pk0 (v := pt N3 1) s rfl fun _ s => ?_;refine pk (v := .int .i64 r) s rfl (rn_load1 rfl rfl Tryz.isAgg3 (hk5.cell rfl)) fun _ s => ?_;refine pk0 (v := .bool (decide (r > 1073741824))) s rfl fun _ s => ?_;refine pk0 (v := .bool (decide (r > 1073741824))) s rfl fun _ s => q1 ?_;cases hc33 : (decide (r > 1073741824))
    ·
     rw [hc33] at s;have hp34 : ¬ (r > 1073741824) := of_decide_eq_false hc33;refine co_false s rfl <| q8 ?_;refine pk0 (v := pt N3 2) s rfl fun _ s => ?_;refine pk (v := v) s rfl (rn_load1 rfl rfl Tryz.isAgg27 (hk5.cell rfl)) fun _ s => ?_;refine pk (v := .int .i64 (l.length : Int)) s rfl (rn_len rfl rfl Tryz.underlying27 (hs.below hB15)) fun _ s => ?_;refine pk0 (v := .bool (decide ((l.length : Int) > 4))) s rfl fun _ s => q1 ?_;cases hc39 : (decide ((l.length : Int) > 4))
     ·
      rw [hc39] at s;have hp40 : ¬ ((l.length : Int) > 4) := of_decide_eq_false hc39;refine co_false s rfl <| q8 ?_;refine pk0 (v := .int .i64 0) s rfl fun _ s => q1 <| wp_block ?_;have s : Slots 66 [(1, pt N3 0), (2, .int .i64 0), (3, .int .i64 0)] _ := s.sub ⟨rfl, rfl, rfl, trivial⟩;refine co_loop (fun mm a x => ∃ (i : Nat), Slots 66 [(1, pt N3 0), (2, .int .i64 0), (3, .int .i64 (i : Int))] a ∧ mm = l.length - i ∧ (i ≤ l.length) ∧ (chkL (prevK l i) (l.drop i) = chkB c r l) ∧ Below w.heap.size w x ∧ Blk x N3 29 #[.int .i64 c, .int .i64 r, v]) (l.length - 0) ?_ ?_
      · exact ⟨0, s.sub ⟨rfl, rfl, (slot_eq rfl (congrArg (Value.int .i64) (by first | rfl | omega))), trivial⟩, rfl, by omega, by first | exact chkB_d rfl (by omega) (by omega) (by omega) | exact hL', hB15, hk5⟩
      · rintro k43 a44 w45 ⟨i, s, rfl, hi46, hi47, hB48, hk49⟩
        have hz50 := hB48.size;have hl51 := hk49.lt;have hL : chkL (prevK l i) (l.drop i) = chkB c r l := by assumption
        refine q9 ?_;refine pk0 (v := .int .i64 (i : Int)) s rfl fun _ s => ?_;refine pk0 (v := pt N3 2) s rfl fun _ s => ?_;refine pk (v := v) s rfl (rn_load1 rfl rfl Tryz.isAgg27 (hk49.cell rfl)) fun _ s => ?_;refine pk (v := .int .i64 (l.length : Int)) s rfl (rn_len rfl rfl Tryz.underlying27 (hs.below hB48)) fun _ s => ?_;refine pk0 (v := .bool (decide ((i : Int) < (l.length : Int)))) s rfl fun _ s => q1 ?_;cases hc57 : (decide ((i : Int) < (l.length : Int)))
        ·
         rw [hc57] at s;have hp58 : ¬ ((i : Int) < (l.length : Int)) := of_decide_eq_false hc57;refine co_false s rfl <| wp_exit <| co_thenX <| co_thenX <| qx <| q2 ?_;refine pk0 (v := .int .i64 0) s rfl fun _ s => q4 ?_;refine co_ret1 s rfl rfl ?_;exact ⟨ret_int (chkL_end (i := i) hL (by omega)), hB48⟩
        rw [hc57] at s;have hp60 : (i : Int) < (l.length : Int) := of_decide_eq_true hc57;refine co_true s rfl <| q0 <| co_seq <| wp_block <| q2 ?_;refine pk0 (v := pt N3 2) s rfl fun _ s => ?_;refine pk (v := v) s rfl (rn_load1 rfl rfl Tryz.isAgg27 (hk49.cell rfl)) fun _ s => ?_;refine pk0 (v := .int .i64 (i : Int)) s rfl fun _ s => ?_;obtain ⟨y64, hy64⟩ : ∃ z, l[i]? = some z := ⟨_, List.getElem?_eq_getElem (by first | omega | (simp; done) | (simp; omega))⟩;refine pk (v := pt (blkOf v) (offOf v + i * 3)) s rfl (rn_index rfl rfl rfl Tryz.underlying27 Tryz.sizeOf134 (hs.below hB48) (by omega) (by first | omega | (simp; done) | (simp; omega))) fun _ s => ?_;refine pk (v := .agg #[.string y64.1, .string y64.2.1, .bool y64.2.2]) s rfl (rn_loadN rfl rfl Tryz.underlying134 rfl (by kernel_rfl) (sl_at (hs.below hB48) hy64)) fun _ s => ?_;refine pw s rfl (op_new (v := fun N => pt N 0) (T := 134) (cs := #[.string (⟨#[]⟩), .string (⟨#[]⟩), .bool false]) (by kernel_rfl) (by kernel_rfl) (by kernel_rfl)) ?_;rintro _ w68 a67 ⟨N69, rfl, hN72, hz73, hk71, hg70⟩ s;have hz74 := hg70.size
        try dsimp only at s
        refine pwD s rfl (op_storeN rfl rfl rfl (by kernel_rfl) (by kernel_rfl) hk71 rfl) ?_;rintro _ w76 a75 ⟨hk77, hz78, hg79⟩ s;have hk77' : Blk w76 N69 134 #[.string y64.1, .string y64.2.1, .bool y64.2.2] := hk77;have hz80 := hg79.size;refine q6 ?_;refine pk0 (v := pt N69 0) s rfl fun _ s => ?_;refine pk (v := .string y64.1) s rfl (rn_load1 rfl rfl Tryz.isAgg9 (hk77'.cell rfl)) fun _ s => ?_;refine pw s rfl (op_call (args := #[.string y64.1]) (R := fun res xw => res = .int .i64 (keyC y64.1) ∧ Below w76.heap.size w76 xw) rfl rfl rfl (by kernel_rfl) (by kernel_rfl) (Tryz.call120 _ _) (rKey_any y64.1 w76 ) (by rintro e x ⟨rfl, hb85⟩; exact ⟨_, rfl, ⟨rfl, hb85⟩⟩)) ?_;rintro _ w84 a83 ⟨rfl, hb85⟩ s;have hz86 := hb85.size;refine pk0 (v := .bool (keyC y64.1 != 0)) s rfl fun _ s => q1 ?_;have hB89 := hb_new hB48 hg70;have hB90 := hb_at hB89 hg79 (by omega);have hB91 := hb_call hB90 hb85;have hk92 := hk49.kept hg70 (by simp);have hk93 := hk92.kept hg79 (by simp; omega);have hk94 := hk93.below hb85;cases hc88 : (keyC y64.1 != 0)
        ·
         rw [hc88] at s;have hp95 : ¬ (keyC y64.1 ≠ 0) := by first | simpa using hc88 | simpa [and_assoc] using hc88
         refine co_false s rfl <| q8 ?_;refine pk0 (v := pt N69 1) s rfl fun _ s => ?_;have hk97 := hk77'.below hb85;refine pk (v := .string y64.2.1) s rfl (rn_load1 rfl rfl Tryz.isAgg9 (hk97.cell rfl)) fun _ s => ?_;refine pk (v := .int .i64 (y64.2.1.size : Int)) s rfl (rn_lenStr rfl rfl Tryz.underlying9) fun _ s => ?_;refine pk0 (v := .bool (decide ((y64.2.1.size : Int) > 8))) s rfl fun _ s => q1 ?_;cases hc101 : (decide ((y64.2.1.size : Int) > 8))
         ·
          rw [hc101] at s;have hp102 : ¬ ((y64.2.1.size : Int) > 8) := of_decide_eq_false hc101;refine co_false s rfl <| q8 ?_;refine pk0 (v := pt N69 2) s rfl fun _ s => ?_;refine pk (v := .bool y64.2.2) s rfl (rn_load1 rfl rfl Tryz.isAgg4 (hk97.cell rfl)) fun _ s => ?_;refine pk0 (v := .bool y64.2.2) s rfl fun _ s => ?_;cases hc106 : (y64.2.2)
          ·
           rw [hc106] at s;refine psk s rfl fun _ s => ?_;refine psk s rfl fun _ s => ?_;refine psk s rfl fun _ s => ?_;refine pk0 (v := .bool false) s rfl fun _ s => q1 ?_;refine co_false s rfl <| q0 <| co_seq ?_;refine dr_eq (by kernel_rfl) (fun w111 hg112 => ?_);have hz113 := hg112.size;refine dk0 0 (v := .int .i64 (i : Int)) s rfl rfl rfl fun _ s => ?_;refine dk0 1 (v := .bool (decide ((i : Int) > 0))) s rfl rfl rfl fun _ s => ?_;refine dk0 2 (v := .bool (decide ((i : Int) > 0))) s rfl rfl rfl fun _ s => ?_;have hB118 := hb_new hB91 hg112;cases hc117 : (decide ((i : Int) > 0))
           ·
            rw [hc117] at s;have hp119 : ¬ ((i : Int) > 0) := of_decide_eq_false hc117;refine dsk 3 s rfl rfl rfl fun _ s => ?_;refine dsk 4 s rfl rfl rfl fun _ s => ?_;refine dsk 5 s rfl rfl rfl fun _ s => ?_;refine dsk 6 s rfl rfl rfl fun _ s => ?_;refine dsk 7 s rfl rfl rfl fun _ s => ?_;refine dsk 8 s rfl rfl rfl fun _ s => ?_;refine dsk 9 s rfl rfl rfl fun _ s => ?_;refine dsk 10 s rfl rfl rfl fun _ s => ?_;refine dsk 11 s rfl rfl rfl fun _ s => ?_;refine dsk 12 s rfl rfl rfl fun _ s => ?_;refine dk0 13 (v := .bool false) s rfl rfl rfl fun _ s => ?_;refine dr_done (by kernel_rfl) ?_;refine co_then ?_;refine co_false s rfl <| wp_skip <| co_blockN <| co_then <| co_reg ?_;refine pk0 (v := .int .i64 (i : Int)) s rfl fun _ s => ?_;refine pk (v := .int .i64 ((i + 1 : Nat) : Int)) s rfl (rn_arith' rfl rfl rfl rfl rfl rfl (IntWalk.i64_in _ (by omega)) (by omega)) fun _ s => ?_;refine pk0 (v := .int .i64 ((i + 1 : Nat) : Int)) s rfl fun _ s => q1 ?_;refine ⟨(l.length - (i + 1)), by omega, ?_⟩;have hO : chkOp y64 = 0 := chkOp_d (by assumption) (by assumption) (by first | exact delV_t (by assumption) (by assumption) | exact delV_f (by assumption));have hU : keyUp (prevK l i) y64.1 = true := (keyUp_0 (by omega));have hL' := chkL_step (i := i) hL hy64 hO hU;have hk134 := hk94.kept hg112 (by simp);exact ⟨i + 1, s.sub ⟨rfl, rfl, rfl, trivial⟩, rfl, by omega, by first | exact chkB_d rfl (by omega) (by omega) (by omega) | exact hL', hB118, hk134⟩
           rw [hc117] at s;have hp135 : (i : Int) > 0 := of_decide_eq_true hc117;refine dk0 3 (v := pt N3 2) s rfl rfl rfl fun _ s => ?_;have hk137 := hk94.kept hg112 (by simp);refine dk 4 (v := v) s rfl rfl rfl (fun x hx => by subst hx; exact (rn_load1 rfl rfl Tryz.isAgg27 (hk137.cell rfl))) fun _ s => ?_;refine dk0 5 (v := .int .i64 (i : Int)) s rfl rfl rfl fun _ s => ?_;refine dk 6 (v := .int .i64 ((i : Int) - 1)) s rfl rfl rfl (fun x hx => by subst hx; exact (rn_arith rfl rfl rfl rfl rfl rfl (IntWalk.i64_in _ (by omega)))) fun _ s => ?_;obtain ⟨y141, hy141⟩ : ∃ z, l[((i : Int) - 1).toNat]? = some z := ⟨_, List.getElem?_eq_getElem (by first | omega | (simp; done) | (simp; omega))⟩;refine dk 7 (v := pt (blkOf v) (offOf v + (((i : Int) - 1).toNat) * 3)) s rfl rfl rfl (fun x hx => by subst hx; exact (rn_index rfl rfl rfl Tryz.underlying27 Tryz.sizeOf134 (hs.below hB118) (by omega) (by first | omega | (simp; done) | (simp; omega)))) fun _ s => ?_;refine dk0 8 (v := pt (blkOf v) (offOf v + (((i : Int) - 1).toNat) * 3)) s rfl rfl rfl fun _ s => ?_;refine dk 9 (v := .string y141.1) s rfl rfl rfl (fun x hx => by subst hx; exact (rn_load1 rfl rfl Tryz.isAgg9 ((sl_at (hs.below hB118) hy141) 0 _ rfl))) fun _ s => ?_;refine dk0 10 (v := pt N69 0) s rfl rfl rfl fun _ s => ?_;have hk146 := hk97.kept hg112 (by simp);refine dk 11 (v := .string y64.1) s rfl rfl rfl (fun x hx => by subst hx; exact (rn_load1 rfl rfl Tryz.isAgg9 (hk146.cell rfl))) fun _ s => ?_;refine dk0 12 (v := .bool (!(Op.bytesLess y141.1.toList y64.1.toList))) s rfl rfl rfl fun _ s => ?_;refine dk0 13 (v := .bool (!(Op.bytesLess y141.1.toList y64.1.toList))) s rfl rfl rfl fun _ s => ?_;refine dr_done (by kernel_rfl) ?_;refine co_then ?_;cases hc150 : (!(Op.bytesLess y141.1.toList y64.1.toList))
           ·
            rw [hc150] at s;refine co_false s rfl <| wp_skip <| co_blockN <| co_then <| co_reg ?_;refine pk0 (v := .int .i64 (i : Int)) s rfl fun _ s => ?_;refine pk (v := .int .i64 ((i + 1 : Nat) : Int)) s rfl (rn_arith' rfl rfl rfl rfl rfl rfl (IntWalk.i64_in _ (by omega)) (by omega)) fun _ s => ?_;refine pk0 (v := .int .i64 ((i + 1 : Nat) : Int)) s rfl fun _ s => q1 ?_;refine ⟨(l.length - (i + 1)), by omega, ?_⟩;have hO : chkOp y64 = 0 := chkOp_d (by assumption) (by assumption) (by first | exact delV_t (by assumption) (by assumption) | exact delV_f (by assumption));have hU : keyUp (prevK l i) y64.1 = true := (keyUp_at (l := l) (i := i) (y := y64) (j := ((i : Int) - 1).toNat) (by omega) (by omega) hy141 (by simpa using hc150));have hL' := chkL_step (i := i) hL hy64 hO hU;exact ⟨i + 1, s.sub ⟨rfl, rfl, rfl, trivial⟩, rfl, by omega, by first | exact chkB_d rfl (by omega) (by omega) (by omega) | exact hL', hB118, hk137⟩
           rw [hc150] at s;refine co_true s rfl <| q2 ?_;refine pk0 (v := .int .i64 18) s rfl fun _ s => q4 <| qr <| co_thenR <| qr ?_;refine co_ret1 s rfl rfl ?_;have hO : chkOp y64 = 0 := chkOp_d (by assumption) (by assumption) (by first | exact delV_t (by assumption) (by assumption) | exact delV_f (by assumption));exact ⟨ret_int (chkL_ord (i := i) hL hy64 hO (keyUp_at (l := l) (i := i) (y := y64) (j := ((i : Int) - 1).toNat) (by omega) (by omega) hy141 (by simpa using hc150))), hB118⟩
          rw [hc106] at s;refine pk0 (v := pt N69 1) s rfl fun _ s => ?_;refine pk (v := .string y64.2.1) s rfl (rn_load1 rfl rfl Tryz.isAgg9 (hk97.cell rfl)) fun _ s => ?_;refine pk0 (v := .bool (!(y64.2.1.toList == (⟨#[]⟩ : ByteArray).toList))) s rfl fun _ s => ?_;refine pk0 (v := .bool (!(y64.2.1.toList == (⟨#[]⟩ : ByteArray).toList))) s rfl fun _ s => q1 ?_;cases hc159 : (!(y64.2.1.toList == (⟨#[]⟩ : ByteArray).toList))
          ·
           rw [hc159] at s;refine co_false s rfl <| q0 <| co_seq ?_;refine dr_eq (by kernel_rfl) (fun w160 hg161 => ?_);have hz162 := hg161.size;refine dk0 0 (v := .int .i64 (i : Int)) s rfl rfl rfl fun _ s => ?_;refine dk0 1 (v := .bool (decide ((i : Int) > 0))) s rfl rfl rfl fun _ s => ?_;refine dk0 2 (v := .bool (decide ((i : Int) > 0))) s rfl rfl rfl fun _ s => ?_;have hB167 := hb_new hB91 hg161;cases hc166 : (decide ((i : Int) > 0))
           ·
            rw [hc166] at s;have hp168 : ¬ ((i : Int) > 0) := of_decide_eq_false hc166;refine dsk 3 s rfl rfl rfl fun _ s => ?_;refine dsk 4 s rfl rfl rfl fun _ s => ?_;refine dsk 5 s rfl rfl rfl fun _ s => ?_;refine dsk 6 s rfl rfl rfl fun _ s => ?_;refine dsk 7 s rfl rfl rfl fun _ s => ?_;refine dsk 8 s rfl rfl rfl fun _ s => ?_;refine dsk 9 s rfl rfl rfl fun _ s => ?_;refine dsk 10 s rfl rfl rfl fun _ s => ?_;refine dsk 11 s rfl rfl rfl fun _ s => ?_;refine dsk 12 s rfl rfl rfl fun _ s => ?_;refine dk0 13 (v := .bool false) s rfl rfl rfl fun _ s => ?_;refine dr_done (by kernel_rfl) ?_;refine co_then ?_;refine co_false s rfl <| wp_skip <| co_blockN <| co_then <| co_reg ?_;refine pk0 (v := .int .i64 (i : Int)) s rfl fun _ s => ?_;refine pk (v := .int .i64 ((i + 1 : Nat) : Int)) s rfl (rn_arith' rfl rfl rfl rfl rfl rfl (IntWalk.i64_in _ (by omega)) (by omega)) fun _ s => ?_;refine pk0 (v := .int .i64 ((i + 1 : Nat) : Int)) s rfl fun _ s => q1 ?_;refine ⟨(l.length - (i + 1)), by omega, ?_⟩;have hO : chkOp y64 = 0 := chkOp_d (by assumption) (by assumption) (by first | exact delV_t (by assumption) (by assumption) | exact delV_f (by assumption));have hU : keyUp (prevK l i) y64.1 = true := (keyUp_0 (by omega));have hL' := chkL_step (i := i) hL hy64 hO hU;have hk183 := hk94.kept hg161 (by simp);exact ⟨i + 1, s.sub ⟨rfl, rfl, rfl, trivial⟩, rfl, by omega, by first | exact chkB_d rfl (by omega) (by omega) (by omega) | exact hL', hB167, hk183⟩
           rw [hc166] at s;have hp184 : (i : Int) > 0 := of_decide_eq_true hc166;refine dk0 3 (v := pt N3 2) s rfl rfl rfl fun _ s => ?_;have hk186 := hk94.kept hg161 (by simp);refine dk 4 (v := v) s rfl rfl rfl (fun x hx => by subst hx; exact (rn_load1 rfl rfl Tryz.isAgg27 (hk186.cell rfl))) fun _ s => ?_;refine dk0 5 (v := .int .i64 (i : Int)) s rfl rfl rfl fun _ s => ?_;refine dk 6 (v := .int .i64 ((i : Int) - 1)) s rfl rfl rfl (fun x hx => by subst hx; exact (rn_arith rfl rfl rfl rfl rfl rfl (IntWalk.i64_in _ (by omega)))) fun _ s => ?_;obtain ⟨y190, hy190⟩ : ∃ z, l[((i : Int) - 1).toNat]? = some z := ⟨_, List.getElem?_eq_getElem (by first | omega | (simp; done) | (simp; omega))⟩;refine dk 7 (v := pt (blkOf v) (offOf v + (((i : Int) - 1).toNat) * 3)) s rfl rfl rfl (fun x hx => by subst hx; exact (rn_index rfl rfl rfl Tryz.underlying27 Tryz.sizeOf134 (hs.below hB167) (by omega) (by first | omega | (simp; done) | (simp; omega)))) fun _ s => ?_;refine dk0 8 (v := pt (blkOf v) (offOf v + (((i : Int) - 1).toNat) * 3)) s rfl rfl rfl fun _ s => ?_;refine dk 9 (v := .string y190.1) s rfl rfl rfl (fun x hx => by subst hx; exact (rn_load1 rfl rfl Tryz.isAgg9 ((sl_at (hs.below hB167) hy190) 0 _ rfl))) fun _ s => ?_;refine dk0 10 (v := pt N69 0) s rfl rfl rfl fun _ s => ?_;have hk195 := hk97.kept hg161 (by simp);refine dk 11 (v := .string y64.1) s rfl rfl rfl (fun x hx => by subst hx; exact (rn_load1 rfl rfl Tryz.isAgg9 (hk195.cell rfl))) fun _ s => ?_;refine dk0 12 (v := .bool (!(Op.bytesLess y190.1.toList y64.1.toList))) s rfl rfl rfl fun _ s => ?_;refine dk0 13 (v := .bool (!(Op.bytesLess y190.1.toList y64.1.toList))) s rfl rfl rfl fun _ s => ?_;refine dr_done (by kernel_rfl) ?_;refine co_then ?_;cases hc199 : (!(Op.bytesLess y190.1.toList y64.1.toList))
           ·
            rw [hc199] at s;refine co_false s rfl <| wp_skip <| co_blockN <| co_then <| co_reg ?_;refine pk0 (v := .int .i64 (i : Int)) s rfl fun _ s => ?_;refine pk (v := .int .i64 ((i + 1 : Nat) : Int)) s rfl (rn_arith' rfl rfl rfl rfl rfl rfl (IntWalk.i64_in _ (by omega)) (by omega)) fun _ s => ?_;refine pk0 (v := .int .i64 ((i + 1 : Nat) : Int)) s rfl fun _ s => q1 ?_;refine ⟨(l.length - (i + 1)), by omega, ?_⟩;have hO : chkOp y64 = 0 := chkOp_d (by assumption) (by assumption) (by first | exact delV_t (by assumption) (by assumption) | exact delV_f (by assumption));have hU : keyUp (prevK l i) y64.1 = true := (keyUp_at (l := l) (i := i) (y := y64) (j := ((i : Int) - 1).toNat) (by omega) (by omega) hy190 (by simpa using hc199));have hL' := chkL_step (i := i) hL hy64 hO hU;exact ⟨i + 1, s.sub ⟨rfl, rfl, rfl, trivial⟩, rfl, by omega, by first | exact chkB_d rfl (by omega) (by omega) (by omega) | exact hL', hB167, hk186⟩
           rw [hc199] at s;refine co_true s rfl <| q2 ?_;refine pk0 (v := .int .i64 18) s rfl fun _ s => q4 <| qr <| co_thenR <| qr ?_;refine co_ret1 s rfl rfl ?_;have hO : chkOp y64 = 0 := chkOp_d (by assumption) (by assumption) (by first | exact delV_t (by assumption) (by assumption) | exact delV_f (by assumption));exact ⟨ret_int (chkL_ord (i := i) hL hy64 hO (keyUp_at (l := l) (i := i) (y := y64) (j := ((i : Int) - 1).toNat) (by omega) (by omega) hy190 (by simpa using hc199))), hB167⟩
          rw [hc159] at s;refine co_true s rfl <| q2 ?_;refine pk0 (v := .int .i64 4) s rfl fun _ s => q5 <| qr <| co_thenR <| qr ?_;refine co_ret1 s rfl rfl ?_;have hO : chkOp y64 = 4 := chkOp_c (by assumption) (by assumption) (by first | exact delV_t (by assumption) (by assumption) | exact delV_f (by assumption));exact ⟨ret_int (hO.symm.trans (chkL_bad (i := i) hL hy64 (by omega))), hB91⟩
         rw [hc101] at s;have hp205 : (y64.2.1.size : Int) > 8 := of_decide_eq_true hc101;refine co_true s rfl <| q2 ?_;refine pk0 (v := .int .i64 3) s rfl fun _ s => q5 <| qr <| co_thenR <| qr ?_;refine co_ret1 s rfl rfl ?_;have hO : chkOp y64 = 3 := chkOp_b (by assumption) (by assumption);exact ⟨ret_int (hO.symm.trans (chkL_bad (i := i) hL hy64 (by omega))), hB91⟩
        rw [hc88] at s;have hp207 : keyC y64.1 ≠ 0 := by first | simpa using hc88 | simpa [and_assoc] using hc88
        refine co_true s rfl <| q2 ?_;refine pk0 (v := .int .i64 10) s rfl fun _ s => q5 <| qr <| co_thenR <| qr ?_;refine co_ret1 s rfl rfl ?_;have hO : chkOp y64 = 10 := by rw [chkOp_a (by assumption), keyC_ten (by assumption)]
        exact ⟨ret_int (hO.symm.trans (chkL_bad (i := i) hL hy64 (by omega))), hB91⟩
     rw [hc39] at s;have hp209 : (l.length : Int) > 4 := of_decide_eq_true hc39;refine co_true s rfl <| q2 ?_;refine pk0 (v := .int .i64 6) s rfl fun _ s => q5 ?_;refine co_ret1 s rfl rfl ?_;exact ⟨ret_int (chkB_c rfl (by omega) (by omega) (by omega)), hB15⟩
    rw [hc33] at s;have hp211 : r > 1073741824 := of_decide_eq_true hc33;refine co_true s rfl <| q2 ?_;refine pk0 (v := .int .i64 5) s rfl fun _ s => q5 ?_;refine co_ret1 s rfl rfl ?_;exact ⟨ret_int (chkB_b rfl (by omega) (by omega)), hB15⟩
   rw [hc27] at s;have hp213 : r < 1 := of_decide_eq_true hc27;refine psk s rfl fun _ s => ?_;refine psk s rfl fun _ s => ?_;refine psk s rfl fun _ s => ?_;refine pk0 (v := .bool true) s rfl fun _ s => q1 ?_;refine co_true s rfl <| q2 ?_;refine pk0 (v := .int .i64 5) s rfl fun _ s => q5 ?_;refine co_ret1 s rfl rfl ?_;exact ⟨ret_int (chkB_b rfl (by omega) (by omega)), hB15⟩
  rw [hc21] at s;have hp219 : c ≥ 3 := of_decide_eq_true hc21;refine co_true s rfl <| q2 ?_;refine pk0 (v := .int .i64 1) s rfl fun _ s => q5 ?_;refine co_ret1 s rfl rfl ?_;exact ⟨ret_int (chkB_a rfl (by omega)), hB15⟩
 rw [hc14] at s;have hp221 : c < 0 := of_decide_eq_true hc14;refine psk s rfl fun _ s => ?_;refine psk s rfl fun _ s => ?_;refine psk s rfl fun _ s => ?_;refine pk0 (v := .bool true) s rfl fun _ s => q1 ?_;refine co_true s rfl <| q2 ?_;refine pk0 (v := .int .i64 1) s rfl fun _ s => q5 ?_;refine co_ret1 s rfl rfl ?_;exact ⟨ret_int (chkB_a rfl (by omega)), hB15⟩
end Go.Proofs.YtcbagajjgbfgdaaGreat

/- Package ops: Same, Put of both. Conditions: none. -/
namespace Go.Proofs.YtcbagajjgbfgdaaGreat
open Go.RowKit Go.PlainAid
set_option linter.unusedVariables false


/-- The bytes of a batch. -/
def putO1 (o : OpT) : List UInt8 := (putL (o.1.size : Int) ++ o.1.data.toList) ++ [flagB o.2.2] ++ (putL (o.2.1.size : Int) ++ o.2.1.data.toList)
def putOs (l : List OpT) : List UInt8 := l.flatMap putO1
def putH (c r : Int) (l : List OpT) : List UInt8 := putL c ++ putL r ++ putL ((l.length : Nat) : Int)
def putB (c r : Int) (l : List OpT) : ByteArray := if chkB c r l = 0 then ⟨(putH c r l ++ putOs l).toArray⟩ else ⟨#[]⟩
theorem putB_ok {c r : Int} {l : List OpT} (h : chkB c r l = 0) : putB c r l = ⟨(putH c r l ++ putOs l).toArray⟩ := by unfold putB; rw [if_pos h]
theorem putB_err {c r : Int} {l : List OpT} (h : chkB c r l ≠ 0) : putB c r l = ⟨#[]⟩ := by unfold putB; rw [if_neg h]

set_option maxRecDepth 100000 in
theorem opsPut_any (c : Int) (r : Int) (v : Value) (l : List OpT) (w : World) (hs : SliceOf opE 3 w v l) :
    Calls Tryz.prog 61 #[.agg #[.int .i64 c, .int .i64 r, v]] w fun e w' => e = .returned (.tuple #[.string (putB c r l), .int .i64 (chkB c r l)]) ∧ Below w.heap.size w w' := by
 have hcb : chkB c r l = 0 → ((0 ≤ c ∧ c < 3) ∧ (1 ≤ r ∧ r ≤ 1073741824) ∧ l.length ≤ 4) := fun h => ⟨(chkB_ok h).1, (chkB_ok h).2.1, (chkB_ok h).2.2.1⟩;have hB0 := Below.refl w.heap.size w;have hl_hs := sl_len hs;refine co_enter (n := 46) Tryz.func61 rfl rfl rfl [(0, .agg #[.int .i64 c, .int .i64 r, v])] rfl (fun a s => ?_);refine q2 ?_;refine pw s rfl (op_new (v := fun N => pt N 0) (T := 29) (cs := #[.int .i64 c, .int .i64 r, v]) (by kernel_rfl) (by kernel_rfl) (by kernel_rfl)) ?_;rintro _ w2 a1 ⟨N3, rfl, hN6, hz7, hk5, hg4⟩ s;have hz8 := hg4.size
 try dsimp only at s
 refine pk0 (v := .string (⟨#[]⟩)) s rfl fun _ s => ?_;refine pk0 (v := .int .i64 0) s rfl fun _ s => q6 ?_;refine pk (v := .agg #[.int .i64 c, .int .i64 r, v]) s rfl (rn_loadN rfl rfl Tryz.underlying29 rfl (by kernel_rfl) hk5.all) fun _ s => ?_;have hB14 := hb_new hB0 hg4;refine pw s rfl (op_call (args := #[.agg #[.int .i64 c, .int .i64 r, v]]) (R := fun res xw => res = .int .i64 (chkB c r l) ∧ Below w2.heap.size w2 xw) rfl rfl rfl (by kernel_rfl) (by kernel_rfl) (Tryz.call72 _ _) (opsCheck_any c r v l w2 (hs.below hB14)) (by rintro e x ⟨rfl, hb15⟩; exact ⟨_, rfl, ⟨rfl, hb15⟩⟩)) ?_;rintro _ w13 a12 ⟨rfl, hb15⟩ s;have hz16 := hb15.size;refine pk0 (v := .int .i64 (chkB c r l)) s rfl fun _ s => q3 ?_;refine pk0 (v := .int .i64 (chkB c r l)) s rfl fun _ s => ?_;refine pk0 (v := .bool (chkB c r l != 0)) s rfl fun _ s => q1 ?_;have hB21 := hb_call hB14 hb15;cases hc20 : (chkB c r l != 0)
 ·
  rw [hc20] at s;have hp22 : ¬ (chkB c r l ≠ 0) := by first | simpa using hc20 | simpa [and_assoc] using hc20
  refine co_false s rfl <| q0 <| co_seq ?_;refine dr_gen (fun x => Below w.heap.size w x ∧ Blk x N3 29 #[.int .i64 c, .int .i64 r, v]) (by kernel_rfl) (fun w23 hg24 => ?_) (fun w23 hg24 => ?_)
  ·
   have hz25 := hg24.size;have hB26 := hb_new hB21 hg24;have hk27 := hk5.below hb15;have hk28 := hk27.kept hg24 (by simp);exact ⟨hB26, hk28⟩
  have hz29 := hg24.size;have hB30 := hb_new hB21 hg24;have hk31 := hk5.below hb15;have hk32 := hk31.kept hg24 (by simp);refine dk0 1 (v := pt N3 0) s rfl rfl ⟨hB30, hk32⟩ fun _ s => ?_;refine dk 2 (v := .int .i64 c) s rfl rfl ⟨hB30, hk32⟩ (fun x hx => (rn_load1 rfl rfl Tryz.isAgg3 (hx.2.cell rfl))) fun _ s => ?_;refine dk0 4 (v := pt N3 1) s rfl rfl ⟨hB30, hk32⟩ fun _ s => ?_;refine dk 5 (v := .int .i64 r) s rfl rfl ⟨hB30, hk32⟩ (fun x hx => (rn_load1 rfl rfl Tryz.isAgg3 (hx.2.cell rfl))) fun _ s => ?_;refine dk0 7 (v := pt N3 2) s rfl rfl ⟨hB30, hk32⟩ fun _ s => ?_;refine dk 8 (v := v) s rfl rfl ⟨hB30, hk32⟩ (fun x hx => (rn_load1 rfl rfl Tryz.isAgg27 (hx.2.cell rfl))) fun _ s => ?_;refine dk 9 (v := .int .i64 (l.length : Int)) s rfl rfl ⟨hB30, hk32⟩ (fun x hx => (rn_len rfl rfl Tryz.underlying27 (hs.below hx.1))) fun _ s => ?_;refine d1 0 s rfl rfl (op_call (args := #[]) (R := fun res xw => ∃ b : Nat, res = pt b 0 ∧ b = w23.heap.size ∧ OW b [] 0 xw ∧ Below w23.heap.size w23 xw) rfl rfl rfl (by kernel_rfl) (by kernel_rfl) (Tryz.call18 _ _) (ow_new w23) (by rintro e x ⟨b, rfl, h0, h1, h2⟩; exact ⟨_, rfl, b, rfl, h0, h1, h2⟩)) ?_ ?_
  ·
   rintro _ w41 ⟨b42, rfl, hN43, ho44, hb45⟩;have hz46 := hb45.size;have hl47 := ho44.lt;have hB48 := hb_call hB30 hb45;have hk49 := hk32.below hb45;exact ⟨hB48, hk49⟩
  rintro _ w41 a40 ⟨b42, rfl, hN43, ho44, hb45⟩ s;have hz46 := hb45.size;have hl47 := ho44.lt;have hB48 := hb_call hB30 hb45;have hk49 := hk32.below hb45;refine d1 3 s rfl rfl (op_call (args := #[pt b42 0, .int .i64 c]) (R := fun res xw => res = pt b42 0 ∧ OW b42 (([] : List UInt8) ++ putL c) (0 + 9) xw ∧ But (Rw w41 b42) w41 xw) rfl rfl rfl (by kernel_rfl) (by kernel_rfl) (Tryz.call19 _ _) (ow_num b42 ([]) 0 c w41 ho44 (by omega) (by omega) (by omega)) (by rintro e x ⟨rfl, h1, h2⟩; exact ⟨_, rfl, rfl, h1, h2⟩)) ?_ ?_
  ·
   rintro _ w51 ⟨rfl, ho52, hx53⟩;have hz54 := hx53.size;have hl55 := ho52.lt;have hB56 := hb_wr hB48 ho44 (by omega) hx53;have hk57 := blk_wr hk49 ho44 (by decide) (by omega) hx53;exact ⟨hB56, hk57⟩
  rintro _ w51 a50 ⟨rfl, ho52, hx53⟩ s;have hz54 := hx53.size;have hl55 := ho52.lt;have hB56 := hb_wr hB48 ho44 (by omega) hx53;have hk57 := blk_wr hk49 ho44 (by decide) (by omega) hx53;refine d1 6 s rfl rfl (op_call (args := #[pt b42 0, .int .i64 r]) (R := fun res xw => res = pt b42 0 ∧ OW b42 ((([] : List UInt8) ++ putL c) ++ putL r) (0 + 9 + 9) xw ∧ But (Rw w51 b42) w51 xw) rfl rfl rfl (by kernel_rfl) (by kernel_rfl) (Tryz.call19 _ _) (ow_num b42 (([] : List UInt8) ++ putL c) (0 + 9) r w51 ho52 (by omega) (by omega) (by omega)) (by rintro e x ⟨rfl, h1, h2⟩; exact ⟨_, rfl, rfl, h1, h2⟩)) ?_ ?_
  ·
   rintro _ w59 ⟨rfl, ho60, hx61⟩;have hz62 := hx61.size;have hl63 := ho60.lt;have hB64 := hb_wr hB56 ho52 (by omega) hx61;have hk65 := blk_wr hk57 ho52 (by decide) (by omega) hx61;exact ⟨hB64, hk65⟩
  rintro _ w59 a58 ⟨rfl, ho60, hx61⟩ s;have hz62 := hx61.size;have hl63 := ho60.lt;have hB64 := hb_wr hB56 ho52 (by omega) hx61;have hk65 := blk_wr hk57 ho52 (by decide) (by omega) hx61;refine d1 10 s rfl rfl (op_call (args := #[pt b42 0, .int .i64 (l.length : Int)]) (R := fun res xw => res = pt b42 0 ∧ OW b42 (((([] : List UInt8) ++ putL c) ++ putL r) ++ putL (l.length : Int)) (0 + 9 + 9 + 9) xw ∧ But (Rw w59 b42) w59 xw) rfl rfl rfl (by kernel_rfl) (by kernel_rfl) (Tryz.call19 _ _) (ow_num b42 ((([] : List UInt8) ++ putL c) ++ putL r) (0 + 9 + 9) (l.length : Int) w59 ho60 (by omega) (by omega) (by omega)) (by rintro e x ⟨rfl, h1, h2⟩; exact ⟨_, rfl, rfl, h1, h2⟩)) ?_ ?_
  ·
   rintro _ w67 ⟨rfl, ho68, hx69⟩;have hz70 := hx69.size;have hl71 := ho68.lt;have hB72 := hb_wr hB64 ho60 (by omega) hx69;have hk73 := blk_wr hk65 ho60 (by decide) (by omega) hx69;exact ⟨hB72, hk73⟩
  rintro _ w67 a66 ⟨rfl, ho68, hx69⟩ s;have hz70 := hx69.size;have hl71 := ho68.lt;have hB72 := hb_wr hB64 ho60 (by omega) hx69;have hk73 := blk_wr hk65 ho60 (by decide) (by omega) hx69;refine dk0 11 (v := pt b42 0) s rfl rfl ⟨hB72, hk73⟩ fun _ s => ?_;refine dr_done (by kernel_rfl) ?_;refine co_then <| q9 ?_;refine pk0 (v := pt N3 2) s rfl fun _ s => ?_;refine pk (v := v) s rfl (rn_load1 rfl rfl Tryz.isAgg27 (hk73.cell rfl)) fun _ s => ?_;refine pk (v := .int .i64 (l.length : Int)) s rfl (rn_len rfl rfl Tryz.underlying27 (hs.below hB72)) fun _ s => ?_;refine pk0 (v := .int .i64 0) s rfl fun _ s => q1 <| wp_block ?_;have hck := chkB_all (c := c) (r := r) (l := l) (by omega);have s : Slots 46 [(1, pt N3 0), (2, .string (⟨#[]⟩)), (3, .int .i64 0), (5, pt b42 0), (25, v), (26, .int .i64 (l.length : Int)), (27, .int .i64 0)] _ := s.sub ⟨rfl, rfl, rfl, rfl, rfl, rfl, rfl, trivial⟩;refine co_loop (fun mm a x => ∃ (i : Nat), Slots 46 [(1, pt N3 0), (2, .string (⟨#[]⟩)), (3, .int .i64 0), (5, pt b42 0), (25, v), (26, .int .i64 (l.length : Int)), (27, .int .i64 (i : Int))] a ∧ mm = l.length - i ∧ (i ≤ l.length) ∧ OW b42 (putH c r l ++ putOs (l.take i)) (27 + i * 35) x ∧ Below w.heap.size w x ∧ Blk x N3 29 #[.int .i64 c, .int .i64 r, v]) (l.length - 0) ?_ ?_
  · exact ⟨0, s.sub ⟨rfl, rfl, rfl, rfl, rfl, rfl, (slot_eq rfl (congrArg (Value.int .i64) (by first | rfl | omega))), trivial⟩, rfl, by omega, (ho68.eq (by first | (simp [putH, putOs]; done) | (rw [takeO_at (by assumption)]; simp [putH, putOs, putO1])) (by first | omega | (simp; done) | (simp; omega))), hB72, hk73⟩
  · rintro k80 a81 w82 ⟨i, s, rfl, hi83, hf84, hB85, hk86⟩
    have hz87 := hB85.size;have hl88 := hk86.lt;have hl89 := hf84.lt;refine q2 ?_;refine pk0 (v := .bool (decide ((i : Int) < (l.length : Int)))) s rfl fun _ s => q1 <| co_seq ?_;cases hc91 : (decide ((i : Int) < (l.length : Int)))
    ·
     rw [hc91] at s;have hp92 : ¬ ((i : Int) < (l.length : Int)) := of_decide_eq_false hc91;refine co_false s rfl <| wp_exit <| co_thenX <| co_thenX <| qx <| q2 ?_;refine pk0 (v := pt b42 0) s rfl fun _ s => ?_;refine pw s rfl (op_call (args := #[pt b42 0]) (R := fun res xw => res = .tuple #[.string (⟨(putH c r l ++ putOs (l.take i)).toArray⟩), .int .i64 0] ∧ Below w82.heap.size w82 xw) rfl rfl rfl (by kernel_rfl) (by kernel_rfl) (Tryz.call22 _ _) (ow_done b42 (putH c r l ++ putOs (l.take i)) (27 + i * 35) w82 hf84) (by rintro e x ⟨rfl, h2⟩; exact ⟨_, rfl, rfl, h2⟩)) ?_;rintro _ w95 a94 ⟨rfl, hb96⟩ s;have hz97 := hb96.size;refine pk0 (v := .string (⟨(putH c r l ++ putOs (l.take i)).toArray⟩)) s rfl fun _ s => ?_;refine pk0 (v := .int .i64 0) s rfl fun _ s => ?_;refine pk0 (v := .string (⟨(putH c r l ++ putOs (l.take i)).toArray⟩)) s rfl fun _ s => ?_;refine pk0 (v := .int .i64 0) s rfl fun _ s => q4 ?_;refine co_ret2 s rfl rfl rfl ?_;have hB102 := hb_call hB85 hb96;exact ⟨by rw [putB_ok (by omega), show chkB c r l = 0 by omega, List.take_of_length_le (show l.length ≤ i by omega)], hB102⟩
    rw [hc91] at s;have hp103 : (i : Int) < (l.length : Int) := of_decide_eq_true hc91;refine co_true s rfl <| q0 <| co_seq <| wp_block <| q2 ?_;obtain ⟨y104, hy104⟩ : ∃ z, l[i]? = some z := ⟨_, List.getElem?_eq_getElem (by first | omega | (simp; done) | (simp; omega))⟩;have oky104 := hck _ (List.mem_of_getElem? hy104);have k105 : y104.1.size ≤ 8 := oky104.1.2;have k106 : y104.2.1.size ≤ 8 := oky104.2.1;refine pk (v := pt (blkOf v) (offOf v + i * 3)) s rfl (rn_index rfl rfl rfl Tryz.underlying27 Tryz.sizeOf134 (hs.below hB85) (by omega) (by first | omega | (simp; done) | (simp; omega))) fun _ s => ?_;refine pk (v := .agg #[.string y104.1, .string y104.2.1, .bool y104.2.2]) s rfl (rn_loadN rfl rfl Tryz.underlying134 rfl (by kernel_rfl) (sl_at (hs.below hB85) hy104)) fun _ s => ?_;refine pw s rfl (op_new (v := fun N => pt N 0) (T := 134) (cs := #[.string (⟨#[]⟩), .string (⟨#[]⟩), .bool false]) (by kernel_rfl) (by kernel_rfl) (by kernel_rfl)) ?_;rintro _ w110 a109 ⟨N111, rfl, hN114, hz115, hk113, hg112⟩ s;have hz116 := hg112.size
    try dsimp only at s
    refine pwD s rfl (op_storeN rfl rfl rfl (by kernel_rfl) (by kernel_rfl) hk113 rfl) ?_;rintro _ w118 a117 ⟨hk119, hz120, hg121⟩ s;have hk119' : Blk w118 N111 134 #[.string y104.1, .string y104.2.1, .bool y104.2.2] := hk119;have hz122 := hg121.size;refine q1 ?_;refine dr_gen (fun x => Below w.heap.size w x ∧ Blk x N111 134 #[.string y104.1, .string y104.2.1, .bool y104.2.2]) (by kernel_rfl) (fun w123 hg124 => ?_) (fun w123 hg124 => ?_)
    ·
     have hz125 := hg124.size;have hB126 := hb_new hB85 hg112;have hB127 := hb_at hB126 hg121 (by omega);have hB128 := hb_new hB127 hg124;have hk129 := hk119'.kept hg124 (by simp);exact ⟨hB128, hk129⟩
    have hz130 := hg124.size;have hB131 := hb_new hB85 hg112;have hB132 := hb_at hB131 hg121 (by omega);have hB133 := hb_new hB132 hg124;have hk134 := hk119'.kept hg124 (by simp);refine dk0 0 (v := pt b42 0) s rfl rfl ⟨hB133, hk134⟩ fun _ s => ?_;refine dk0 1 (v := pt N111 0) s rfl rfl ⟨hB133, hk134⟩ fun _ s => ?_;refine dk 2 (v := .string y104.1) s rfl rfl ⟨hB133, hk134⟩ (fun x hx => (rn_load1 rfl rfl Tryz.isAgg9 (hx.2.cell rfl))) fun _ s => ?_;refine dk0 4 (v := pt N111 2) s rfl rfl ⟨hB133, hk134⟩ fun _ s => ?_;refine dk 5 (v := .bool y104.2.2) s rfl rfl ⟨hB133, hk134⟩ (fun x hx => (rn_load1 rfl rfl Tryz.isAgg4 (hx.2.cell rfl))) fun _ s => ?_;refine dk0 7 (v := pt N111 1) s rfl rfl ⟨hB133, hk134⟩ fun _ s => ?_;refine dk 8 (v := .string y104.2.1) s rfl rfl ⟨hB133, hk134⟩ (fun x hx => (rn_load1 rfl rfl Tryz.isAgg9 (hx.2.cell rfl))) fun _ s => ?_;have ho146 := hf84.new hg112;have ho147 := ho146.at hk113 (by decide) (by omega) hg121;have ho148 := ho147.new hg124;refine d1 3 s rfl rfl (op_call (args := #[pt b42 0, .string y104.1]) (R := fun res xw => res = pt b42 0 ∧ OW b42 ((putH c r l ++ putOs (l.take i)) ++ (putL (y104.1.size : Int) ++ y104.1.data.toList)) (27 + i * 35 + (9 + y104.1.size)) xw ∧ But (Rw w123 b42) w123 xw) rfl rfl rfl (by kernel_rfl) (by kernel_rfl) (Tryz.call59 _ _) (ow_text b42 (putH c r l ++ putOs (l.take i)) (27 + i * 35) y104.1 w123 ho148 (by first | omega | (simp; done) | (simp; omega))) (by rintro e x ⟨rfl, h1, h2⟩; exact ⟨_, rfl, rfl, h1, h2⟩)) ?_ ?_
    ·
     rintro _ w143 ⟨rfl, ho144, hx145⟩;have hz149 := hx145.size;have hl150 := ho144.lt;have hB151 := hb_wr hB133 ho148 (by omega) hx145;have hk152 := blk_wr hk134 ho148 (by decide) (by omega) hx145;exact ⟨hB151, hk152⟩
    rintro _ w143 a142 ⟨rfl, ho144, hx145⟩ s;have hz149 := hx145.size;have hl150 := ho144.lt;have hB151 := hb_wr hB133 ho148 (by omega) hx145;have hk152 := blk_wr hk134 ho148 (by decide) (by omega) hx145;refine d1 6 s rfl rfl (op_call (args := #[pt b42 0, .bool y104.2.2]) (R := fun res xw => res = pt b42 0 ∧ OW b42 (((putH c r l ++ putOs (l.take i)) ++ (putL (y104.1.size : Int) ++ y104.1.data.toList)) ++ [flagB y104.2.2]) (27 + i * 35 + (9 + y104.1.size) + 1) xw ∧ But (Rw w143 b42) w143 xw) rfl rfl rfl (by kernel_rfl) (by kernel_rfl) (Tryz.call57 _ _) (ow_flag b42 ((putH c r l ++ putOs (l.take i)) ++ (putL (y104.1.size : Int) ++ y104.1.data.toList)) (27 + i * 35 + (9 + y104.1.size)) y104.2.2 w143 ho144 (by omega)) (by rintro e x ⟨rfl, h1, h2⟩; exact ⟨_, rfl, rfl, h1, h2⟩)) ?_ ?_
    ·
     rintro _ w154 ⟨rfl, ho155, hx156⟩;have hz157 := hx156.size;have hl158 := ho155.lt;have hB159 := hb_wr hB151 ho144 (by omega) hx156;have hk160 := blk_wr hk152 ho144 (by decide) (by omega) hx156;exact ⟨hB159, hk160⟩
    rintro _ w154 a153 ⟨rfl, ho155, hx156⟩ s;have hz157 := hx156.size;have hl158 := ho155.lt;have hB159 := hb_wr hB151 ho144 (by omega) hx156;have hk160 := blk_wr hk152 ho144 (by decide) (by omega) hx156;refine d1 9 s rfl rfl (op_call (args := #[pt b42 0, .string y104.2.1]) (R := fun res xw => res = pt b42 0 ∧ OW b42 ((((putH c r l ++ putOs (l.take i)) ++ (putL (y104.1.size : Int) ++ y104.1.data.toList)) ++ [flagB y104.2.2]) ++ (putL (y104.2.1.size : Int) ++ y104.2.1.data.toList)) (27 + i * 35 + (9 + y104.1.size) + 1 + (9 + y104.2.1.size)) xw ∧ But (Rw w154 b42) w154 xw) rfl rfl rfl (by kernel_rfl) (by kernel_rfl) (Tryz.call59 _ _) (ow_text b42 (((putH c r l ++ putOs (l.take i)) ++ (putL (y104.1.size : Int) ++ y104.1.data.toList)) ++ [flagB y104.2.2]) (27 + i * 35 + (9 + y104.1.size) + 1) y104.2.1 w154 ho155 (by first | omega | (simp; done) | (simp; omega))) (by rintro e x ⟨rfl, h1, h2⟩; exact ⟨_, rfl, rfl, h1, h2⟩)) ?_ ?_
    ·
     rintro _ w162 ⟨rfl, ho163, hx164⟩;have hz165 := hx164.size;have hl166 := ho163.lt;have hB167 := hb_wr hB159 ho155 (by omega) hx164;have hk168 := blk_wr hk160 ho155 (by decide) (by omega) hx164;exact ⟨hB167, hk168⟩
    rintro _ w162 a161 ⟨rfl, ho163, hx164⟩ s;have hz165 := hx164.size;have hl166 := ho163.lt;refine dr_done (by kernel_rfl) ?_;refine co_blockN <| co_then <| co_reg ?_;refine pk (v := .int .i64 ((i + 1 : Nat) : Int)) s rfl (rn_arith' rfl rfl rfl rfl rfl rfl (IntWalk.i64_in _ (by omega)) (by omega)) fun _ s => ?_;refine pk0 (v := .int .i64 ((i + 1 : Nat) : Int)) s rfl fun _ s => q1 ?_;refine ⟨(l.length - (i + 1)), by omega, ?_⟩;have hB169 := hb_wr hB159 ho155 (by omega) hx164;have hk170 := hk86.kept hg112 (by simp);have hk171 := hk170.kept hg121 (by simp; omega);have hk172 := hk171.kept hg124 (by simp);have hk173 := blk_wr hk172 ho148 (by decide) (by omega) hx145;have hk174 := blk_wr hk173 ho144 (by decide) (by omega) hx156;have hk175 := blk_wr hk174 ho155 (by decide) (by omega) hx164;exact ⟨i + 1, s.sub ⟨rfl, rfl, rfl, rfl, rfl, rfl, rfl, trivial⟩, rfl, by omega, (ho163.eq (by first | (simp [putH, putOs]; done) | (rw [takeO_at (by assumption)]; simp [putH, putOs, putO1])) (by first | omega | (simp; done) | (simp; omega))), hB169, hk175⟩
 rw [hc20] at s;have hp176 : chkB c r l ≠ 0 := by first | simpa using hc20 | simpa [and_assoc] using hc20
 refine co_true s rfl <| q2 ?_;refine pk0 (v := .int .i64 (chkB c r l)) s rfl fun _ s => ?_;refine pk0 (v := .string (⟨#[]⟩)) s rfl fun _ s => ?_;refine pk0 (v := .int .i64 (chkB c r l)) s rfl fun _ s => q5 ?_;refine co_ret2 s rfl rfl rfl ?_;exact ⟨by rw [putB_err (by assumption)], hB21⟩
end Go.Proofs.YtcbagajjgbfgdaaGreat

/- Package ops: Of of both. Conditions: none. -/
namespace Go.Proofs.YtcbagajjgbfgdaaGreat
open Go.RowKit Go.PlainAid
set_option linter.unusedVariables false


/-- What Of reads: one operation more, n of them; a batch. -/
def rdStep (s : ByteArray) (q : List OpT × Int × Int) : List OpT × Int × Int :=
  let t := textR s q.2.1 q.2.2 8
  let f := flagR s t.2.1.toNat t.2.2
  let u := textR s f.2.1 f.2.2 8
  (q.1 ++ [(t.1, u.1, f.1)], u.2.1, u.2.2)
def rdN (s : ByteArray) : Nat → List OpT × Int × Int → List OpT × Int × Int
  | 0, q => q
  | n + 1, q => rdStep s (rdN s n q)
theorem rdN_step {s : ByteArray} {i : Nat} {q0 : List OpT × Int × Int} {l : List OpT} {a e a1 e1 a2 e2 a3 e3 : Int} {k t : ByteArray} {f : Bool} (h : rdN s i q0 = (l, a, e)) (h1 : textR s a e 8 = (k, a1, e1)) (h2 : flagR s a1.toNat e1 = (f, a2, e2)) (h3 : textR s a2 e2 8 = (t, a3, e3)) :
    rdN s (i + 1) q0 = (l ++ [(k, t, f)], a3, e3) := by
  show rdStep s (rdN s i q0) = _
  rw [h]; simp only [rdStep, h1, h2, h3]
def ofEnd (c r : Int) (l : List OpT) (x : Int) : (Int × Int × List OpT) × Int :=
  if x ≠ 0 then ((0, 0, []), x) else if chkB c r l ≠ 0 then ((0, 0, []), chkB c r l) else ((c, r, l), 0)
def ofB (s : ByteArray) : (Int × Int × List OpT) × Int :=
  let c := numR s 0 0 2
  let r := numR s c.2.1 c.2.2 1073741824
  let n := numR s r.2.1 r.2.2 4
  let q := rdN s n.1.toNat ([], n.2.1, n.2.2)
  ofEnd c.1 r.1 q.1 (endV s q.2.1.toNat q.2.2)
theorem ofB_at {s : ByteArray} {c r n x a1 e1 a2 e2 a3 e3 a4 e4 : Int} {l : List OpT} {i : Nat} (h1 : numR s 0 0 2 = (c, a1, e1)) (h2 : numR s a1 e1 1073741824 = (r, a2, e2)) (h3 : numR s a2 e2 4 = (n, a3, e3)) (h4 : rdN s i ([], a3, e3) = (l, a4, e4)) (hi : i = n.toNat) (h5 : endV s a4.toNat e4 = x) : ofB s = ofEnd c r l x := by
  subst hi; simp only [ofB, h1, h2, h3, h4, h5]
theorem ofEnd_a {c r x : Int} {l : List OpT} (h : x ≠ 0) : ofEnd c r l x = ((0, 0, []), x) := by unfold ofEnd; rw [if_pos h]
theorem ofEnd_b {c r x : Int} {l : List OpT} (h : ¬ x ≠ 0) (h1 : chkB c r l ≠ 0) : ofEnd c r l x = ((0, 0, []), chkB c r l) := by unfold ofEnd; rw [if_neg h, if_pos h1]
theorem ofEnd_c {c r x : Int} {l : List OpT} (h : ¬ x ≠ 0) (h1 : ¬ chkB c r l ≠ 0) : ofEnd c r l x = ((c, r, l), 0) := by unfold ofEnd; rw [if_neg h, if_neg h1]

set_option maxRecDepth 100000 in
theorem opsOf_any (s : ByteArray) (c : Int) (r : Int) (l : List OpT) (x : Int) (w : World) (hsz : s.size ≤ 9223372036854775807) (hof : ofB s = ((c, r, l), x)) :
    Calls Tryz.prog 103 #[.string s] w fun e w' => ∃ (u : Value), e = .returned (.tuple #[.agg #[.int .i64 c, .int .i64 r, u], .int .i64 x]) ∧ w'.ownsRow w.heap.size 134 3 u l.length (l.flatMap opE) ∧ Below w.heap.size w w' := by
 have hB0 := Below.refl w.heap.size w;refine co_enter (n := 45) Tryz.func103 rfl rfl rfl [(0, .string s)] rfl (fun a g => ?_);refine q2 ?_;refine pw g rfl (op_new (v := fun N => pt N 0) (T := 29) (cs := #[.int .i64 0, .int .i64 0, .slice none 0 0]) (by kernel_rfl) (by kernel_rfl) (by kernel_rfl)) ?_;rintro _ w2 a1 ⟨N3, rfl, hN6, hz7, hk5, hg4⟩ g;have hz8 := hg4.size
 try dsimp only at g
 refine pk0 (v := .int .i64 0) g rfl fun _ g => q3 ?_;refine pk0 (v := .string s) g rfl fun _ g => ?_;refine pw g rfl (op_call (args := #[.string s]) (R := fun res xw => ∃ b : Nat, res = pt b 0 ∧ b = w2.heap.size ∧ OR b s 0 0 xw ∧ Below w2.heap.size w2 xw) rfl rfl rfl (by kernel_rfl) (by kernel_rfl) (Tryz.call46 _ _) (or_open s w2) (by rintro e x ⟨b, rfl, h0, h1, h2⟩; exact ⟨_, rfl, b, rfl, h0, h1, h2⟩)) ?_;rintro _ w12 a11 ⟨b13, rfl, hN14, ho15, hb16⟩ g;have hz17 := hb16.size;have hl18 := ho15.lt;refine pk0 (v := pt b13 0) g rfl fun _ g => q3 ?_;refine pk0 (v := pt b13 0) g rfl fun _ g => ?_;refine pw g rfl (op_call (args := #[pt b13 0, .int .i64 2]) (R := fun res xw => ∃ (n : Int) (a' e' : Int), res = .int .i64 n ∧ numR s 0 0 2 = (n, a', e') ∧ 0 ≤ n ∧ n ≤ 2 ∧ OR b13 s a' e' xw ∧ w12.grownBy xw (some b13)) rfl rfl rfl (by kernel_rfl) (by kernel_rfl) (Tryz.call47 _ _) (or_num b13 s 0 0 2 w12 ho15 (by omega) (by omega) (by omega)) (by rintro q x ⟨n, a', e', rfl, h0, k0, k1, h1, h2⟩; exact ⟨_, rfl, n, a', e', rfl, h0, k0, k1, h1, h2⟩)) ?_;rintro _ w22 a21 ⟨n23, a24, e25, rfl, hq26, hn27, hm28, ho29, hg30⟩ g;have hz31 := hg30.size;have hl32 := ho29.lt;refine pk0 (v := pt b13 0) g rfl fun _ g => ?_;refine pw g rfl (op_call (args := #[pt b13 0, .int .i64 1073741824]) (R := fun res xw => ∃ (n : Int) (a' e' : Int), res = .int .i64 n ∧ numR s a24 e25 1073741824 = (n, a', e') ∧ 0 ≤ n ∧ n ≤ 1073741824 ∧ OR b13 s a' e' xw ∧ w22.grownBy xw (some b13)) rfl rfl rfl (by kernel_rfl) (by kernel_rfl) (Tryz.call47 _ _) (or_num b13 s a24 e25 1073741824 w22 ho29 (by omega) (by omega) (by omega)) (by rintro q x ⟨n, a', e', rfl, h0, k0, k1, h1, h2⟩; exact ⟨_, rfl, n, a', e', rfl, h0, k0, k1, h1, h2⟩)) ?_;rintro _ w35 a34 ⟨n36, a37, e38, rfl, hq39, hn40, hm41, ho42, hg43⟩ g;have hz44 := hg43.size;have hl45 := ho42.lt;refine pk0 (v := .agg #[.int .i64 n23, .int .i64 n36, .slice none 0 0]) g rfl fun _ g => ?_;refine pw g rfl (op_new (v := fun N => pt N 0) (T := 29) (cs := #[.int .i64 0, .int .i64 0, .slice none 0 0]) (by kernel_rfl) (by kernel_rfl) (by kernel_rfl)) ?_;rintro _ w48 a47 ⟨N49, rfl, hN52, hz53, hk51, hg50⟩ g;have hz54 := hg50.size
 try dsimp only at g
 refine pwD g rfl (op_storeN rfl rfl rfl (all_cons rfl (all_cons rfl (all_cons rfl all_nil))) (by kernel_rfl) hk51 rfl) ?_;rintro _ w56 a55 ⟨hk57, hz58, hg59⟩ g;have hk57' : Blk w56 N49 29 #[.int .i64 n23, .int .i64 n36, .slice none 0 0] := hk57;have hz60 := hg59.size;refine q6 ?_;refine pk0 (v := pt b13 0) g rfl fun _ g => ?_;have ho72 := ho42.new hg50;have ho73 := ho72.at (by omega) hg59;refine pw g rfl (op_call (args := #[pt b13 0, .int .i64 4]) (R := fun res xw => ∃ (n : Int) (a' e' : Int), res = .int .i64 n ∧ numR s a37 e38 4 = (n, a', e') ∧ 0 ≤ n ∧ n ≤ 4 ∧ OR b13 s a' e' xw ∧ w56.grownBy xw (some b13)) rfl rfl rfl (by kernel_rfl) (by kernel_rfl) (Tryz.call47 _ _) (or_num b13 s a37 e38 4 w56 ho73 (by omega) (by omega) (by omega)) (by rintro q x ⟨n, a', e', rfl, h0, k0, k1, h1, h2⟩; exact ⟨_, rfl, n, a', e', rfl, h0, k0, k1, h1, h2⟩)) ?_;rintro _ w63 a62 ⟨n64, a65, e66, rfl, hq67, hn68, hm69, ho70, hg71⟩ g;have hz74 := hg71.size;have hl75 := ho70.lt;refine pk0 (v := .int .i64 0) g rfl fun _ g => q1 <| wp_block ?_;have g : Slots 45 [(2, pt N3 0), (3, .int .i64 0), (4, pt b13 0), (5, pt N49 0), (16, .int .i64 n64), (17, .int .i64 0)] _ := g.sub ⟨rfl, rfl, rfl, rfl, rfl, rfl, trivial⟩;refine co_loop (fun mm a x => ∃ (i : Nat) (u : Value) (ls : List OpT) (ps : Int) (er : Int), Slots 45 [(2, pt N3 0), (3, .int .i64 0), (4, pt b13 0), (5, pt N49 0), (16, .int .i64 n64), (17, .int .i64 (i : Int))] a ∧ mm = n64.toNat - i ∧ ((i : Int) ≤ n64) ∧ (ls.length = i) ∧ (rdN s i ([], a65, e66) = (ls, ps, er)) ∧ Blk x N49 29 #[.int .i64 n23, .int .i64 n36, u] ∧ OR b13 s ps er x ∧ x.ownsRow (N49 + 1) 134 3 u ls.length (ls.flatMap opE) ∧ Below w.heap.size w x ∧ Blk x N3 29 #[.int .i64 0, .int .i64 0, .slice none 0 0]) (n64.toNat - 0) ?_ ?_;have hk78 := hk57'.kept hg71 (by simp; omega);have hB79 := hb_new hB0 hg4;have hB80 := hb_call hB79 hb16;have hB81 := hb_at hB80 hg30 (by omega);have hB82 := hb_at hB81 hg43 (by omega);have hB83 := hb_new hB82 hg50;have hB84 := hb_at hB83 hg59 (by omega);have hB85 := hb_at hB84 hg71 (by omega);have hk86 := hk5.below hb16;have hk87 := hk86.kept hg30 (by simp; omega);have hk88 := hk87.kept hg43 (by simp; omega);have hk89 := hk88.kept hg50 (by simp);have hk90 := hk89.kept hg59 (by simp; omega);have hk91 := hk90.kept hg71 (by simp; omega)
 · exact ⟨0, (.slice none 0 0), [], a65, e66, g.sub ⟨rfl, rfl, rfl, rfl, rfl, (slot_eq rfl (congrArg (Value.int .i64) (by first | rfl | omega))), trivial⟩, rfl, by omega, by first | rfl | (simp; omega), by first | rfl | exact hR', hk78, ho70, (row_nilL _ _ _ _ _), hB85, hk91⟩
 · rintro k92 a93 w94 ⟨i, u, ls, ps, er, g, rfl, hi95, hi96, hi97, hf98, hf99, hf100, hB101, hk102⟩
   have hz103 := hB101.size;have hl104 := hk102.lt;have hl105 := hf98.lt;have hl106 := hf99.lt;have hR : rdN s i ([], a65, e66) = (ls, ps, er) := by assumption
   refine q2 ?_;refine pk0 (v := .bool (decide ((i : Int) < n64))) g rfl fun _ g => q1 <| co_seq ?_;cases hc108 : (decide ((i : Int) < n64))
   ·
    rw [hc108] at g;have hp109 : ¬ ((i : Int) < n64) := of_decide_eq_false hc108;refine co_false g rfl <| wp_exit <| co_thenX <| co_thenX <| qx <| q9 ?_;refine pk0 (v := pt b13 0) g rfl fun _ g => ?_;refine pw g rfl (op_call (args := #[pt b13 0]) (R := fun res xw => ∃ r : Int, res = .int .i64 r ∧ endV s ps.toNat er = r ∧ Below w94.heap.size w94 xw) rfl rfl rfl (by kernel_rfl) (by kernel_rfl) (Tryz.call50 _ _) (or_end b13 s ps er w94 hf99 (by omega)) (by rintro e x ⟨r, rfl, h0, h2⟩; exact ⟨_, rfl, r, rfl, h0, h2⟩)) ?_;rintro _ w112 a111 ⟨r113, rfl, hq114, hb115⟩ g;have hz116 := hb115.size;refine pk0 (v := .int .i64 r113) g rfl fun _ g => q3 ?_;refine pk0 (v := .int .i64 r113) g rfl fun _ g => ?_;refine pk0 (v := .bool (r113 != 0)) g rfl fun _ g => q1 ?_;have hB121 := hb_call hB101 hb115;cases hc120 : (r113 != 0)
    ·
     rw [hc120] at g;have hp122 : ¬ (r113 ≠ 0) := by first | simpa using hc120 | simpa [and_assoc] using hc120
     refine co_false g rfl <| q8 ?_;have hk123 := hf98.below hb115;refine pk (v := .agg #[.int .i64 n23, .int .i64 n36, u]) g rfl (rn_loadN rfl rfl Tryz.underlying29 rfl (by kernel_rfl) hk123.all) fun _ g => ?_;have hr127 := row_kept_new hf100 (below_grown hb115);refine pw g rfl (op_call (args := #[.agg #[.int .i64 n23, .int .i64 n36, u]]) (R := fun res xw => res = .int .i64 (chkB n23 n36 ls) ∧ Below w112.heap.size w112 xw) rfl rfl rfl (by kernel_rfl) (by kernel_rfl) (Tryz.call72 _ _) (opsCheck_any n23 n36 u ls w112 (row_sl hr127 opE_len)) (by rintro e x ⟨rfl, hb128⟩; exact ⟨_, rfl, ⟨rfl, hb128⟩⟩)) ?_;rintro _ w126 a125 ⟨rfl, hb128⟩ g;have hz129 := hb128.size;refine pk0 (v := .int .i64 (chkB n23 n36 ls)) g rfl fun _ g => q3 ?_;refine pk0 (v := .int .i64 (chkB n23 n36 ls)) g rfl fun _ g => ?_;refine pk0 (v := .bool (chkB n23 n36 ls != 0)) g rfl fun _ g => q1 ?_;have hB134 := hb_call hB121 hb128;have hk135 := hk102.below hb115;have hk136 := hk135.below hb128;have ho137 := hf99.below hb115;have ho138 := ho137.below hb128;cases hc133 : (chkB n23 n36 ls != 0)
     ·
      rw [hc133] at g;have hp139 : ¬ (chkB n23 n36 ls ≠ 0) := by first | simpa using hc133 | simpa [and_assoc] using hc133
      refine co_false g rfl <| q7 ?_;have hk140 := hk123.below hb128;refine pk (v := .agg #[.int .i64 n23, .int .i64 n36, u]) g rfl (rn_loadN rfl rfl Tryz.underlying29 rfl (by kernel_rfl) hk140.all) fun _ g => ?_;have hr147 := row_kept_new hr127 (below_grown hb128);refine pwD g rfl (op_storeN rfl rfl rfl (all_cons rfl (all_cons rfl (all_cons (row_one hr147) all_nil))) (by kernel_rfl) hk136 rfl) ?_;rintro _ w143 a142 ⟨hk144, hz145, hg146⟩ g;have hk144' : Blk w143 N3 29 #[.int .i64 n23, .int .i64 n36, u] := hk144;have hz148 := hg146.size;refine pk0 (v := .int .i64 0) g rfl fun _ g => q4 ?_;refine co_retC1 (Q := fun _ _ _ => True) g rfl rfl rfl hk144' Tryz.underlying29 rfl (by kernel_rfl) ?_;have hr150 := row_kept_at hr147 hg146 (row_ne_lt hr147 (by omega));have hB151 := hb_at hB134 hg146 (by omega);cases hof.symm.trans ((ofB_at hq26 hq39 hq67 hR (by omega) hq114).trans (ofEnd_c (by assumption) (by assumption)));exact ⟨_, rfl, (row_lows hr150 (by omega)), hB151⟩
     rw [hc133] at g;have hp152 : chkB n23 n36 ls ≠ 0 := by first | simpa using hc133 | simpa [and_assoc] using hc133
     refine co_true g rfl <| q2 ?_;refine pk0 (v := .agg #[.int .i64 0, .int .i64 0, .slice none 0 0]) g rfl fun _ g => ?_;refine pk0 (v := .int .i64 (chkB n23 n36 ls)) g rfl fun _ g => ?_;refine pwD g rfl (op_storeN rfl rfl rfl (all_cons rfl (all_cons rfl (all_cons rfl all_nil))) (by kernel_rfl) hk136 rfl) ?_;rintro _ w156 a155 ⟨hk157, hz158, hg159⟩ g;have hk157' : Blk w156 N3 29 #[.int .i64 0, .int .i64 0, .slice none 0 0] := hk157;have hz160 := hg159.size;refine pk0 (v := .int .i64 (chkB n23 n36 ls)) g rfl fun _ g => q5 ?_;refine co_retC1 (Q := fun _ _ _ => True) g rfl rfl rfl hk157' Tryz.underlying29 rfl (by kernel_rfl) ?_;have hB162 := hb_at hB134 hg159 (by omega);cases hof.symm.trans ((ofB_at hq26 hq39 hq67 hR (by omega) hq114).trans (ofEnd_b (by assumption) (by assumption)));exact ⟨_, rfl, (row_nilL _ _ _ _ _), hB162⟩
    rw [hc120] at g;have hp163 : r113 ≠ 0 := by first | simpa using hc120 | simpa [and_assoc] using hc120
    refine co_true g rfl <| q2 ?_;refine pk0 (v := .agg #[.int .i64 0, .int .i64 0, .slice none 0 0]) g rfl fun _ g => ?_;refine pk0 (v := .int .i64 r113) g rfl fun _ g => ?_;have hk171 := hk102.below hb115;refine pwD g rfl (op_storeN rfl rfl rfl (all_cons rfl (all_cons rfl (all_cons rfl all_nil))) (by kernel_rfl) hk171 rfl) ?_;rintro _ w167 a166 ⟨hk168, hz169, hg170⟩ g;have hk168' : Blk w167 N3 29 #[.int .i64 0, .int .i64 0, .slice none 0 0] := hk168;have hz172 := hg170.size;refine pk0 (v := .int .i64 r113) g rfl fun _ g => q5 ?_;refine co_retC1 (Q := fun _ _ _ => True) g rfl rfl rfl hk168' Tryz.underlying29 rfl (by kernel_rfl) ?_;have hB174 := hb_at hB121 hg170 (by omega);cases hof.symm.trans ((ofB_at hq26 hq39 hq67 hR (by omega) hq114).trans (ofEnd_a (by assumption)));exact ⟨_, rfl, (row_nilL _ _ _ _ _), hB174⟩
   rw [hc108] at g;have hp175 : (i : Int) < n64 := of_decide_eq_true hc108;refine co_true g rfl <| q0 <| co_seq <| wp_block ?_;refine dr_gen (fun x => Below w.heap.size w x) (by kernel_rfl) (fun w176 hg177 => ?_) (fun w176 hg177 => ?_)
   ·
    have hz178 := hg177.size;have hB179 := hb_new hB101 hg177;exact hB179
   have hz180 := hg177.size;have hB181 := hb_new hB101 hg177;refine dk0 0 (v := pt N49 2) g rfl rfl hB181 fun _ g => ?_;refine dk0 2 (v := pt b13 0) g rfl rfl hB181 fun _ g => ?_;refine dk0 4 (v := pt b13 0) g rfl rfl hB181 fun _ g => ?_;refine dk0 6 (v := pt b13 0) g rfl rfl hB181 fun _ g => ?_;refine dr_many [1, 3] (by kernel_rfl) (by simp) ⟨?_, ?_, trivial⟩
   ·
    have hk186 := hf98.kept hg177 (by simp);refine dr_opVal (i := 1) (v := u) g rfl rfl rfl rfl (by kernel_rfl) rfl (rn_load1 rfl rfl Tryz.isAgg27 (hk186.cell rfl)) hB181 (fun _ g => ?_);have ho198 := hf99.new hg177;refine d1 3 g rfl rfl (op_call (args := #[pt b13 0, .int .i64 8]) (R := fun res xw => ∃ (n : ByteArray) (a' e' : Int), res = .string n ∧ textR s ps er 8 = (n, a', e') ∧ (n.size : Int) ≤ 8 ∧ OR b13 s a' e' xw ∧ w176.grownBy xw (some b13)) rfl rfl rfl (by kernel_rfl) (by kernel_rfl) (Tryz.call99 _ _) (or_text b13 s ps er 8 w176 ho198 (by omega) (by omega) (by omega)) (by rintro q x ⟨n, a', e', rfl, h0, k0, h1, h2⟩; exact ⟨_, rfl, n, a', e', rfl, h0, k0, h1, h2⟩)) ?_ ?_
    ·
     rintro _ w189 ⟨n190, a191, e192, rfl, hq193, hn194, ho196, hg197⟩;have hz199 := hg197.size;have hl200 := ho196.lt;have hB201 := hb_at hB181 hg197 (by omega);exact hB201
    rintro _ w189 a188 ⟨n190, a191, e192, rfl, hq193, hn194, ho196, hg197⟩ g;have hz199 := hg197.size;have hl200 := ho196.lt;have hB201 := hb_at hB181 hg197 (by omega);refine d1 5 g rfl rfl (op_call (args := #[pt b13 0]) (R := fun res xw => ∃ (n : Bool) (a' e' : Int), res = .bool n ∧ flagR s a191.toNat e192 = (n, a', e') ∧ OR b13 s a' e' xw ∧ w189.grownBy xw (some b13)) rfl rfl rfl (by kernel_rfl) (by kernel_rfl) (Tryz.call97 _ _) (or_flag b13 s a191 e192 w189 ho196 (by omega)) (by rintro q x ⟨n, a', e', rfl, h0, h1, h2⟩; exact ⟨_, rfl, n, a', e', rfl, h0, h1, h2⟩)) ?_ ?_
    ·
     rintro _ w203 ⟨n204, a205, e206, rfl, hq207, ho210, hg211⟩;have hz212 := hg211.size;have hl213 := ho210.lt;have hB214 := hb_at hB201 hg211 (by omega);exact hB214
    rintro _ w203 a202 ⟨n204, a205, e206, rfl, hq207, ho210, hg211⟩ g;have hz212 := hg211.size;have hl213 := ho210.lt;have hB214 := hb_at hB201 hg211 (by omega);refine d1 7 g rfl rfl (op_call (args := #[pt b13 0, .int .i64 8]) (R := fun res xw => ∃ (n : ByteArray) (a' e' : Int), res = .string n ∧ textR s a205 e206 8 = (n, a', e') ∧ (n.size : Int) ≤ 8 ∧ OR b13 s a' e' xw ∧ w203.grownBy xw (some b13)) rfl rfl rfl (by kernel_rfl) (by kernel_rfl) (Tryz.call99 _ _) (or_text b13 s a205 e206 8 w203 ho210 (by omega) (by omega) (by omega)) (by rintro q x ⟨n, a', e', rfl, h0, k0, h1, h2⟩; exact ⟨_, rfl, n, a', e', rfl, h0, k0, h1, h2⟩)) ?_ ?_
    ·
     rintro _ w216 ⟨n217, a218, e219, rfl, hq220, hn221, ho223, hg224⟩;have hz225 := hg224.size;have hl226 := ho223.lt;have hB227 := hb_at hB214 hg224 (by omega);exact hB227
    rintro _ w216 a215 ⟨n217, a218, e219, rfl, hq220, hn221, ho223, hg224⟩ g;have hz225 := hg224.size;have hl226 := ho223.lt;have hB227 := hb_at hB214 hg224 (by omega);refine dk0 8 (v := .agg #[.string n190, .string n217, .bool n204]) g rfl rfl hB227 fun _ g => ?_;refine d1 9 g rfl rfl (op_new (v := fun N => .slice (some ⟨N, 0, none⟩) 1 1) (T := 134) (cs := #[.string n190, .string n217, .bool n204]) (by kernel_rfl) (by kernel_rfl) (by kernel_rfl)) ?_ ?_
    ·
     rintro _ w230 ⟨N231, rfl, hN234, hz235, hk233, hg232⟩;have hr237 := row_kept_new hf100 hg177;have hr238 := row_kept_at hr237 hg197 (row_ne_lt hr237 (by omega));have hr239 := row_kept_at hr238 hg211 (row_ne_lt hr238 (by omega));have hr240 := row_kept_at hr239 hg224 (row_ne_lt hr239 (by omega));have ha236 := row_fresh hr240 hN234;have hz241 := hg232.size;have hB242 := hb_new hB227 hg232;exact hB242
    rintro _ w230 a229 ⟨N231, rfl, hN234, hz235, hk233, hg232⟩ g;have hr237 := row_kept_new hf100 hg177;have hr238 := row_kept_at hr237 hg197 (row_ne_lt hr237 (by omega));have hr239 := row_kept_at hr238 hg211 (row_ne_lt hr238 (by omega));have hr240 := row_kept_at hr239 hg224 (row_ne_lt hr239 (by omega));have ha236 := row_fresh hr240 hN234;have hz241 := hg232.size
    try dsimp only at g
    have hB242 := hb_new hB227 hg232;have hr248 := row_kept_new hr240 hg232;refine d1 10 g rfl rfl (op_append rfl (N49 + 1) 134 (z := .agg #[.string (⟨#[]⟩), .string (⟨#[]⟩), .bool false]) (size := 3) (bytes := 40) Tryz.underlying27 (by kernel_rfl) rfl rfl rfl hr248 rfl hk233 rfl (by kernel_rfl) (by first | omega | (simp only [List.length_nil, List.length_append, List.length_cons, List.length_take, List.length_drop]; omega)) (by first | omega | (simp only [List.length_nil, List.length_append, List.length_cons, List.length_take, List.length_drop]; omega)) (by omega)) ?_ ?_
    ·
     rintro v245 w244 ⟨hr246, hg247⟩;have hr246' : w244.ownsRow (N49 + 1) 134 3 v245 ((ls ++ [(n190, n217, n204)]).length) ((ls ++ [(n190, n217, n204)]).flatMap opE) := row_push (y := (n190, n217, n204)) hr246 rfl rfl;have hz249 := hg247.size;have hB250 := hb_row hB242 hr248 (by omega) hg247;exact hB250
    rintro v245 w244 a243 ⟨hr246, hg247⟩ g;have hr246' : w244.ownsRow (N49 + 1) 134 3 v245 ((ls ++ [(n190, n217, n204)]).length) ((ls ++ [(n190, n217, n204)]).flatMap opE) := row_push (y := (n190, n217, n204)) hr246 rfl rfl;have hz249 := hg247.size;have hB250 := hb_row hB242 hr248 (by omega) hg247;refine dk0 11 (v := pt N49 2) g rfl rfl hB250 fun _ g => ?_;have hk257 := hk186.kept hg197 (by simp; omega);have hk258 := hk257.kept hg211 (by simp; omega);have hk259 := hk258.kept hg224 (by simp; omega);have hk260 := hk259.kept hg232 (by simp);have hk261 := hk260.kept hg247 (row_ne_lt hr248 (by omega));refine d1D 12 g rfl rfl (op_store1 rfl rfl rfl (row_one hr246') Tryz.sizeOf27 hk261 rfl) ?_ ?_
    ·
     rintro _ w253 ⟨hk254, hz255, hg256⟩;have hk254' : Blk w253 N49 29 #[.int .i64 n23, .int .i64 n36, v245] := hk254;have hz262 := hg256.size;have hB263 := hb_at hB250 hg256 (by omega);exact hB263
    rintro _ w253 a252 ⟨hk254, hz255, hg256⟩ g;have hk254' : Blk w253 N49 29 #[.int .i64 n23, .int .i64 n36, v245] := hk254;have hz262 := hg256.size;refine dr_done (by kernel_rfl) ?_;refine co_blockN <| co_then <| co_reg ?_;refine pk (v := .int .i64 ((i + 1 : Nat) : Int)) g rfl (rn_arith' rfl rfl rfl rfl rfl rfl (IntWalk.i64_in _ (by omega)) (by omega)) fun _ g => ?_;refine pk0 (v := .int .i64 ((i + 1 : Nat) : Int)) g rfl fun _ g => q1 ?_;refine ⟨(n64.toNat - (i + 1)), by omega, ?_⟩;have hR' := rdN_step hR hq193 hq207 hq220;have ho265 := ho223.new hg232;have ho266 := ho265.row (row_ne_lt hr248 (by omega)) hg247;have ho267 := ho266.at (by omega) hg256;have hr268 := row_kept_at hr246' hg256 (row_ne_lt hr246' (by omega));have hB269 := hb_at hB250 hg256 (by omega);have hk270 := hk102.kept hg177 (by simp);have hk271 := hk270.kept hg197 (by simp; omega);have hk272 := hk271.kept hg211 (by simp; omega);have hk273 := hk272.kept hg224 (by simp; omega);have hk274 := hk273.kept hg232 (by simp);have hk275 := hk274.kept hg247 (row_ne_lt hr248 (by omega));have hk276 := hk275.kept hg256 (by simp; omega);exact ⟨i + 1, v245, ls ++ [(n190, n217, n204)], a218, e219, g.sub ⟨rfl, rfl, rfl, rfl, rfl, rfl, trivial⟩, rfl, by omega, by first | rfl | (simp; omega), by first | rfl | exact hR', hk254', ho267, (row_eq hr268 (rfl)), hB269, hk276⟩
   have ho287 := hf99.new hg177;refine dr_op (i := 3) g rfl rfl rfl rfl (op_call (args := #[pt b13 0, .int .i64 8]) (R := fun res xw => ∃ (n : ByteArray) (a' e' : Int), res = .string n ∧ textR s ps er 8 = (n, a', e') ∧ (n.size : Int) ≤ 8 ∧ OR b13 s a' e' xw ∧ w176.grownBy xw (some b13)) rfl rfl rfl (by kernel_rfl) (by kernel_rfl) (Tryz.call99 _ _) (or_text b13 s ps er 8 w176 ho287 (by omega) (by omega) (by omega)) (by rintro q x ⟨n, a', e', rfl, h0, k0, h1, h2⟩; exact ⟨_, rfl, n, a', e', rfl, h0, k0, h1, h2⟩)) ?_ ?_
   ·
    rintro _ w278 ⟨n279, a280, e281, rfl, hq282, hn283, ho285, hg286⟩;have hz288 := hg286.size;have hl289 := ho285.lt;have hB290 := hb_at hB181 hg286 (by omega);exact hB290
   rintro _ w278 a277 ⟨n279, a280, e281, rfl, hq282, hn283, ho285, hg286⟩ g;have hz288 := hg286.size;have hl289 := ho285.lt;have hB290 := hb_at hB181 hg286 (by omega);refine dr_many [1, 5] (by kernel_rfl) (by simp) ⟨?_, ?_, trivial⟩
   ·
    have hk291 := hf98.kept hg177 (by simp);have hk292 := hk291.kept hg286 (by simp; omega);refine dr_opVal (i := 1) (v := u) g rfl rfl rfl rfl (by kernel_rfl) rfl (rn_load1 rfl rfl Tryz.isAgg27 (hk292.cell rfl)) hB290 (fun _ g => ?_);refine d1 5 g rfl rfl (op_call (args := #[pt b13 0]) (R := fun res xw => ∃ (n : Bool) (a' e' : Int), res = .bool n ∧ flagR s a280.toNat e281 = (n, a', e') ∧ OR b13 s a' e' xw ∧ w278.grownBy xw (some b13)) rfl rfl rfl (by kernel_rfl) (by kernel_rfl) (Tryz.call97 _ _) (or_flag b13 s a280 e281 w278 ho285 (by omega)) (by rintro q x ⟨n, a', e', rfl, h0, h1, h2⟩; exact ⟨_, rfl, n, a', e', rfl, h0, h1, h2⟩)) ?_ ?_
    ·
     rintro _ w295 ⟨n296, a297, e298, rfl, hq299, ho302, hg303⟩;have hz304 := hg303.size;have hl305 := ho302.lt;have hB306 := hb_at hB290 hg303 (by omega);exact hB306
    rintro _ w295 a294 ⟨n296, a297, e298, rfl, hq299, ho302, hg303⟩ g;have hz304 := hg303.size;have hl305 := ho302.lt;have hB306 := hb_at hB290 hg303 (by omega);refine d1 7 g rfl rfl (op_call (args := #[pt b13 0, .int .i64 8]) (R := fun res xw => ∃ (n : ByteArray) (a' e' : Int), res = .string n ∧ textR s a297 e298 8 = (n, a', e') ∧ (n.size : Int) ≤ 8 ∧ OR b13 s a' e' xw ∧ w295.grownBy xw (some b13)) rfl rfl rfl (by kernel_rfl) (by kernel_rfl) (Tryz.call99 _ _) (or_text b13 s a297 e298 8 w295 ho302 (by omega) (by omega) (by omega)) (by rintro q x ⟨n, a', e', rfl, h0, k0, h1, h2⟩; exact ⟨_, rfl, n, a', e', rfl, h0, k0, h1, h2⟩)) ?_ ?_
    ·
     rintro _ w308 ⟨n309, a310, e311, rfl, hq312, hn313, ho315, hg316⟩;have hz317 := hg316.size;have hl318 := ho315.lt;have hB319 := hb_at hB306 hg316 (by omega);exact hB319
    rintro _ w308 a307 ⟨n309, a310, e311, rfl, hq312, hn313, ho315, hg316⟩ g;have hz317 := hg316.size;have hl318 := ho315.lt;have hB319 := hb_at hB306 hg316 (by omega);refine dk0 8 (v := .agg #[.string n279, .string n309, .bool n296]) g rfl rfl hB319 fun _ g => ?_;refine d1 9 g rfl rfl (op_new (v := fun N => .slice (some ⟨N, 0, none⟩) 1 1) (T := 134) (cs := #[.string n279, .string n309, .bool n296]) (by kernel_rfl) (by kernel_rfl) (by kernel_rfl)) ?_ ?_
    ·
     rintro _ w322 ⟨N323, rfl, hN326, hz327, hk325, hg324⟩;have hr329 := row_kept_new hf100 hg177;have hr330 := row_kept_at hr329 hg286 (row_ne_lt hr329 (by omega));have hr331 := row_kept_at hr330 hg303 (row_ne_lt hr330 (by omega));have hr332 := row_kept_at hr331 hg316 (row_ne_lt hr331 (by omega));have ha328 := row_fresh hr332 hN326;have hz333 := hg324.size;have hB334 := hb_new hB319 hg324;exact hB334
    rintro _ w322 a321 ⟨N323, rfl, hN326, hz327, hk325, hg324⟩ g;have hr329 := row_kept_new hf100 hg177;have hr330 := row_kept_at hr329 hg286 (row_ne_lt hr329 (by omega));have hr331 := row_kept_at hr330 hg303 (row_ne_lt hr330 (by omega));have hr332 := row_kept_at hr331 hg316 (row_ne_lt hr331 (by omega));have ha328 := row_fresh hr332 hN326;have hz333 := hg324.size
    try dsimp only at g
    have hB334 := hb_new hB319 hg324;have hr340 := row_kept_new hr332 hg324;refine d1 10 g rfl rfl (op_append rfl (N49 + 1) 134 (z := .agg #[.string (⟨#[]⟩), .string (⟨#[]⟩), .bool false]) (size := 3) (bytes := 40) Tryz.underlying27 (by kernel_rfl) rfl rfl rfl hr340 rfl hk325 rfl (by kernel_rfl) (by first | omega | (simp only [List.length_nil, List.length_append, List.length_cons, List.length_take, List.length_drop]; omega)) (by first | omega | (simp only [List.length_nil, List.length_append, List.length_cons, List.length_take, List.length_drop]; omega)) (by omega)) ?_ ?_
    ·
     rintro v337 w336 ⟨hr338, hg339⟩;have hr338' : w336.ownsRow (N49 + 1) 134 3 v337 ((ls ++ [(n279, n309, n296)]).length) ((ls ++ [(n279, n309, n296)]).flatMap opE) := row_push (y := (n279, n309, n296)) hr338 rfl rfl;have hz341 := hg339.size;have hB342 := hb_row hB334 hr340 (by omega) hg339;exact hB342
    rintro v337 w336 a335 ⟨hr338, hg339⟩ g;have hr338' : w336.ownsRow (N49 + 1) 134 3 v337 ((ls ++ [(n279, n309, n296)]).length) ((ls ++ [(n279, n309, n296)]).flatMap opE) := row_push (y := (n279, n309, n296)) hr338 rfl rfl;have hz341 := hg339.size;have hB342 := hb_row hB334 hr340 (by omega) hg339;refine dk0 11 (v := pt N49 2) g rfl rfl hB342 fun _ g => ?_;have hk349 := hk292.kept hg303 (by simp; omega);have hk350 := hk349.kept hg316 (by simp; omega);have hk351 := hk350.kept hg324 (by simp);have hk352 := hk351.kept hg339 (row_ne_lt hr340 (by omega));refine d1D 12 g rfl rfl (op_store1 rfl rfl rfl (row_one hr338') Tryz.sizeOf27 hk352 rfl) ?_ ?_
    ·
     rintro _ w345 ⟨hk346, hz347, hg348⟩;have hk346' : Blk w345 N49 29 #[.int .i64 n23, .int .i64 n36, v337] := hk346;have hz353 := hg348.size;have hB354 := hb_at hB342 hg348 (by omega);exact hB354
    rintro _ w345 a344 ⟨hk346, hz347, hg348⟩ g;have hk346' : Blk w345 N49 29 #[.int .i64 n23, .int .i64 n36, v337] := hk346;have hz353 := hg348.size;refine dr_done (by kernel_rfl) ?_;refine co_blockN <| co_then <| co_reg ?_;refine pk (v := .int .i64 ((i + 1 : Nat) : Int)) g rfl (rn_arith' rfl rfl rfl rfl rfl rfl (IntWalk.i64_in _ (by omega)) (by omega)) fun _ g => ?_;refine pk0 (v := .int .i64 ((i + 1 : Nat) : Int)) g rfl fun _ g => q1 ?_;refine ⟨(n64.toNat - (i + 1)), by omega, ?_⟩;have hR' := rdN_step hR hq282 hq299 hq312;have ho356 := ho315.new hg324;have ho357 := ho356.row (row_ne_lt hr340 (by omega)) hg339;have ho358 := ho357.at (by omega) hg348;have hr359 := row_kept_at hr338' hg348 (row_ne_lt hr338' (by omega));have hB360 := hb_at hB342 hg348 (by omega);have hk361 := hk102.kept hg177 (by simp);have hk362 := hk361.kept hg286 (by simp; omega);have hk363 := hk362.kept hg303 (by simp; omega);have hk364 := hk363.kept hg316 (by simp; omega);have hk365 := hk364.kept hg324 (by simp);have hk366 := hk365.kept hg339 (row_ne_lt hr340 (by omega));have hk367 := hk366.kept hg348 (by simp; omega);exact ⟨i + 1, v337, ls ++ [(n279, n309, n296)], a310, e311, g.sub ⟨rfl, rfl, rfl, rfl, rfl, rfl, trivial⟩, rfl, by omega, by first | rfl | (simp; omega), by first | rfl | exact hR', hk346', ho358, (row_eq hr359 (rfl)), hB360, hk367⟩
   refine dr_op (i := 5) g rfl rfl rfl rfl (op_call (args := #[pt b13 0]) (R := fun res xw => ∃ (n : Bool) (a' e' : Int), res = .bool n ∧ flagR s a280.toNat e281 = (n, a', e') ∧ OR b13 s a' e' xw ∧ w278.grownBy xw (some b13)) rfl rfl rfl (by kernel_rfl) (by kernel_rfl) (Tryz.call97 _ _) (or_flag b13 s a280 e281 w278 ho285 (by omega)) (by rintro q x ⟨n, a', e', rfl, h0, h1, h2⟩; exact ⟨_, rfl, n, a', e', rfl, h0, h1, h2⟩)) ?_ ?_
   ·
    rintro _ w369 ⟨n370, a371, e372, rfl, hq373, ho376, hg377⟩;have hz378 := hg377.size;have hl379 := ho376.lt;have hB380 := hb_at hB290 hg377 (by omega);exact hB380
   rintro _ w369 a368 ⟨n370, a371, e372, rfl, hq373, ho376, hg377⟩ g;have hz378 := hg377.size;have hl379 := ho376.lt;have hB380 := hb_at hB290 hg377 (by omega);refine dr_many [1, 7] (by kernel_rfl) (by simp) ⟨?_, ?_, trivial⟩
   ·
    have hk381 := hf98.kept hg177 (by simp);have hk382 := hk381.kept hg286 (by simp; omega);have hk383 := hk382.kept hg377 (by simp; omega);refine dr_opVal (i := 1) (v := u) g rfl rfl rfl rfl (by kernel_rfl) rfl (rn_load1 rfl rfl Tryz.isAgg27 (hk383.cell rfl)) hB380 (fun _ g => ?_);refine d1 7 g rfl rfl (op_call (args := #[pt b13 0, .int .i64 8]) (R := fun res xw => ∃ (n : ByteArray) (a' e' : Int), res = .string n ∧ textR s a371 e372 8 = (n, a', e') ∧ (n.size : Int) ≤ 8 ∧ OR b13 s a' e' xw ∧ w369.grownBy xw (some b13)) rfl rfl rfl (by kernel_rfl) (by kernel_rfl) (Tryz.call99 _ _) (or_text b13 s a371 e372 8 w369 ho376 (by omega) (by omega) (by omega)) (by rintro q x ⟨n, a', e', rfl, h0, k0, h1, h2⟩; exact ⟨_, rfl, n, a', e', rfl, h0, k0, h1, h2⟩)) ?_ ?_
    ·
     rintro _ w386 ⟨n387, a388, e389, rfl, hq390, hn391, ho393, hg394⟩;have hz395 := hg394.size;have hl396 := ho393.lt;have hB397 := hb_at hB380 hg394 (by omega);exact hB397
    rintro _ w386 a385 ⟨n387, a388, e389, rfl, hq390, hn391, ho393, hg394⟩ g;have hz395 := hg394.size;have hl396 := ho393.lt;have hB397 := hb_at hB380 hg394 (by omega);refine dk0 8 (v := .agg #[.string n279, .string n387, .bool n370]) g rfl rfl hB397 fun _ g => ?_;refine d1 9 g rfl rfl (op_new (v := fun N => .slice (some ⟨N, 0, none⟩) 1 1) (T := 134) (cs := #[.string n279, .string n387, .bool n370]) (by kernel_rfl) (by kernel_rfl) (by kernel_rfl)) ?_ ?_
    ·
     rintro _ w400 ⟨N401, rfl, hN404, hz405, hk403, hg402⟩;have hr407 := row_kept_new hf100 hg177;have hr408 := row_kept_at hr407 hg286 (row_ne_lt hr407 (by omega));have hr409 := row_kept_at hr408 hg377 (row_ne_lt hr408 (by omega));have hr410 := row_kept_at hr409 hg394 (row_ne_lt hr409 (by omega));have ha406 := row_fresh hr410 hN404;have hz411 := hg402.size;have hB412 := hb_new hB397 hg402;exact hB412
    rintro _ w400 a399 ⟨N401, rfl, hN404, hz405, hk403, hg402⟩ g;have hr407 := row_kept_new hf100 hg177;have hr408 := row_kept_at hr407 hg286 (row_ne_lt hr407 (by omega));have hr409 := row_kept_at hr408 hg377 (row_ne_lt hr408 (by omega));have hr410 := row_kept_at hr409 hg394 (row_ne_lt hr409 (by omega));have ha406 := row_fresh hr410 hN404;have hz411 := hg402.size
    try dsimp only at g
    have hB412 := hb_new hB397 hg402;have hr418 := row_kept_new hr410 hg402;refine d1 10 g rfl rfl (op_append rfl (N49 + 1) 134 (z := .agg #[.string (⟨#[]⟩), .string (⟨#[]⟩), .bool false]) (size := 3) (bytes := 40) Tryz.underlying27 (by kernel_rfl) rfl rfl rfl hr418 rfl hk403 rfl (by kernel_rfl) (by first | omega | (simp only [List.length_nil, List.length_append, List.length_cons, List.length_take, List.length_drop]; omega)) (by first | omega | (simp only [List.length_nil, List.length_append, List.length_cons, List.length_take, List.length_drop]; omega)) (by omega)) ?_ ?_
    ·
     rintro v415 w414 ⟨hr416, hg417⟩;have hr416' : w414.ownsRow (N49 + 1) 134 3 v415 ((ls ++ [(n279, n387, n370)]).length) ((ls ++ [(n279, n387, n370)]).flatMap opE) := row_push (y := (n279, n387, n370)) hr416 rfl rfl;have hz419 := hg417.size;have hB420 := hb_row hB412 hr418 (by omega) hg417;exact hB420
    rintro v415 w414 a413 ⟨hr416, hg417⟩ g;have hr416' : w414.ownsRow (N49 + 1) 134 3 v415 ((ls ++ [(n279, n387, n370)]).length) ((ls ++ [(n279, n387, n370)]).flatMap opE) := row_push (y := (n279, n387, n370)) hr416 rfl rfl;have hz419 := hg417.size;have hB420 := hb_row hB412 hr418 (by omega) hg417;refine dk0 11 (v := pt N49 2) g rfl rfl hB420 fun _ g => ?_;have hk427 := hk383.kept hg394 (by simp; omega);have hk428 := hk427.kept hg402 (by simp);have hk429 := hk428.kept hg417 (row_ne_lt hr418 (by omega));refine d1D 12 g rfl rfl (op_store1 rfl rfl rfl (row_one hr416') Tryz.sizeOf27 hk429 rfl) ?_ ?_
    ·
     rintro _ w423 ⟨hk424, hz425, hg426⟩;have hk424' : Blk w423 N49 29 #[.int .i64 n23, .int .i64 n36, v415] := hk424;have hz430 := hg426.size;have hB431 := hb_at hB420 hg426 (by omega);exact hB431
    rintro _ w423 a422 ⟨hk424, hz425, hg426⟩ g;have hk424' : Blk w423 N49 29 #[.int .i64 n23, .int .i64 n36, v415] := hk424;have hz430 := hg426.size;refine dr_done (by kernel_rfl) ?_;refine co_blockN <| co_then <| co_reg ?_;refine pk (v := .int .i64 ((i + 1 : Nat) : Int)) g rfl (rn_arith' rfl rfl rfl rfl rfl rfl (IntWalk.i64_in _ (by omega)) (by omega)) fun _ g => ?_;refine pk0 (v := .int .i64 ((i + 1 : Nat) : Int)) g rfl fun _ g => q1 ?_;refine ⟨(n64.toNat - (i + 1)), by omega, ?_⟩;have hR' := rdN_step hR hq282 hq373 hq390;have ho433 := ho393.new hg402;have ho434 := ho433.row (row_ne_lt hr418 (by omega)) hg417;have ho435 := ho434.at (by omega) hg426;have hr436 := row_kept_at hr416' hg426 (row_ne_lt hr416' (by omega));have hB437 := hb_at hB420 hg426 (by omega);have hk438 := hk102.kept hg177 (by simp);have hk439 := hk438.kept hg286 (by simp; omega);have hk440 := hk439.kept hg377 (by simp; omega);have hk441 := hk440.kept hg394 (by simp; omega);have hk442 := hk441.kept hg402 (by simp);have hk443 := hk442.kept hg417 (row_ne_lt hr418 (by omega));have hk444 := hk443.kept hg426 (by simp; omega);exact ⟨i + 1, v415, ls ++ [(n279, n387, n370)], a388, e389, g.sub ⟨rfl, rfl, rfl, rfl, rfl, rfl, trivial⟩, rfl, by omega, by first | rfl | (simp; omega), by first | rfl | exact hR', hk424', ho435, (row_eq hr436 (rfl)), hB437, hk444⟩
   refine dr_op (i := 7) g rfl rfl rfl rfl (op_call (args := #[pt b13 0, .int .i64 8]) (R := fun res xw => ∃ (n : ByteArray) (a' e' : Int), res = .string n ∧ textR s a371 e372 8 = (n, a', e') ∧ (n.size : Int) ≤ 8 ∧ OR b13 s a' e' xw ∧ w369.grownBy xw (some b13)) rfl rfl rfl (by kernel_rfl) (by kernel_rfl) (Tryz.call99 _ _) (or_text b13 s a371 e372 8 w369 ho376 (by omega) (by omega) (by omega)) (by rintro q x ⟨n, a', e', rfl, h0, k0, h1, h2⟩; exact ⟨_, rfl, n, a', e', rfl, h0, k0, h1, h2⟩)) ?_ ?_
   ·
    rintro _ w446 ⟨n447, a448, e449, rfl, hq450, hn451, ho453, hg454⟩;have hz455 := hg454.size;have hl456 := ho453.lt;have hB457 := hb_at hB380 hg454 (by omega);exact hB457
   rintro _ w446 a445 ⟨n447, a448, e449, rfl, hq450, hn451, ho453, hg454⟩ g;have hz455 := hg454.size;have hl456 := ho453.lt;have hB457 := hb_at hB380 hg454 (by omega);refine dk0 8 (v := .agg #[.string n279, .string n447, .bool n370]) g rfl rfl hB457 fun _ g => ?_;refine dr_many [1, 9] (by kernel_rfl) (by simp) ⟨?_, ?_, trivial⟩
   ·
    have hk459 := hf98.kept hg177 (by simp);have hk460 := hk459.kept hg286 (by simp; omega);have hk461 := hk460.kept hg377 (by simp; omega);have hk462 := hk461.kept hg454 (by simp; omega);refine dr_opVal (i := 1) (v := u) g rfl rfl rfl rfl (by kernel_rfl) rfl (rn_load1 rfl rfl Tryz.isAgg27 (hk462.cell rfl)) hB457 (fun _ g => ?_);refine d1 9 g rfl rfl (op_new (v := fun N => .slice (some ⟨N, 0, none⟩) 1 1) (T := 134) (cs := #[.string n279, .string n447, .bool n370]) (by kernel_rfl) (by kernel_rfl) (by kernel_rfl)) ?_ ?_
    ·
     rintro _ w465 ⟨N466, rfl, hN469, hz470, hk468, hg467⟩;have hr472 := row_kept_new hf100 hg177;have hr473 := row_kept_at hr472 hg286 (row_ne_lt hr472 (by omega));have hr474 := row_kept_at hr473 hg377 (row_ne_lt hr473 (by omega));have hr475 := row_kept_at hr474 hg454 (row_ne_lt hr474 (by omega));have ha471 := row_fresh hr475 hN469;have hz476 := hg467.size;have hB477 := hb_new hB457 hg467;exact hB477
    rintro _ w465 a464 ⟨N466, rfl, hN469, hz470, hk468, hg467⟩ g;have hr472 := row_kept_new hf100 hg177;have hr473 := row_kept_at hr472 hg286 (row_ne_lt hr472 (by omega));have hr474 := row_kept_at hr473 hg377 (row_ne_lt hr473 (by omega));have hr475 := row_kept_at hr474 hg454 (row_ne_lt hr474 (by omega));have ha471 := row_fresh hr475 hN469;have hz476 := hg467.size
    try dsimp only at g
    have hB477 := hb_new hB457 hg467;have hr483 := row_kept_new hr475 hg467;refine d1 10 g rfl rfl (op_append rfl (N49 + 1) 134 (z := .agg #[.string (⟨#[]⟩), .string (⟨#[]⟩), .bool false]) (size := 3) (bytes := 40) Tryz.underlying27 (by kernel_rfl) rfl rfl rfl hr483 rfl hk468 rfl (by kernel_rfl) (by first | omega | (simp only [List.length_nil, List.length_append, List.length_cons, List.length_take, List.length_drop]; omega)) (by first | omega | (simp only [List.length_nil, List.length_append, List.length_cons, List.length_take, List.length_drop]; omega)) (by omega)) ?_ ?_
    ·
     rintro v480 w479 ⟨hr481, hg482⟩;have hr481' : w479.ownsRow (N49 + 1) 134 3 v480 ((ls ++ [(n279, n447, n370)]).length) ((ls ++ [(n279, n447, n370)]).flatMap opE) := row_push (y := (n279, n447, n370)) hr481 rfl rfl;have hz484 := hg482.size;have hB485 := hb_row hB477 hr483 (by omega) hg482;exact hB485
    rintro v480 w479 a478 ⟨hr481, hg482⟩ g;have hr481' : w479.ownsRow (N49 + 1) 134 3 v480 ((ls ++ [(n279, n447, n370)]).length) ((ls ++ [(n279, n447, n370)]).flatMap opE) := row_push (y := (n279, n447, n370)) hr481 rfl rfl;have hz484 := hg482.size;have hB485 := hb_row hB477 hr483 (by omega) hg482;refine dk0 11 (v := pt N49 2) g rfl rfl hB485 fun _ g => ?_;have hk492 := hk462.kept hg467 (by simp);have hk493 := hk492.kept hg482 (row_ne_lt hr483 (by omega));refine d1D 12 g rfl rfl (op_store1 rfl rfl rfl (row_one hr481') Tryz.sizeOf27 hk493 rfl) ?_ ?_
    ·
     rintro _ w488 ⟨hk489, hz490, hg491⟩;have hk489' : Blk w488 N49 29 #[.int .i64 n23, .int .i64 n36, v480] := hk489;have hz494 := hg491.size;have hB495 := hb_at hB485 hg491 (by omega);exact hB495
    rintro _ w488 a487 ⟨hk489, hz490, hg491⟩ g;have hk489' : Blk w488 N49 29 #[.int .i64 n23, .int .i64 n36, v480] := hk489;have hz494 := hg491.size;refine dr_done (by kernel_rfl) ?_;refine co_blockN <| co_then <| co_reg ?_;refine pk (v := .int .i64 ((i + 1 : Nat) : Int)) g rfl (rn_arith' rfl rfl rfl rfl rfl rfl (IntWalk.i64_in _ (by omega)) (by omega)) fun _ g => ?_;refine pk0 (v := .int .i64 ((i + 1 : Nat) : Int)) g rfl fun _ g => q1 ?_;refine ⟨(n64.toNat - (i + 1)), by omega, ?_⟩;have hR' := rdN_step hR hq282 hq373 hq450;have ho497 := ho453.new hg467;have ho498 := ho497.row (row_ne_lt hr483 (by omega)) hg482;have ho499 := ho498.at (by omega) hg491;have hr500 := row_kept_at hr481' hg491 (row_ne_lt hr481' (by omega));have hB501 := hb_at hB485 hg491 (by omega);have hk502 := hk102.kept hg177 (by simp);have hk503 := hk502.kept hg286 (by simp; omega);have hk504 := hk503.kept hg377 (by simp; omega);have hk505 := hk504.kept hg454 (by simp; omega);have hk506 := hk505.kept hg467 (by simp);have hk507 := hk506.kept hg482 (row_ne_lt hr483 (by omega));have hk508 := hk507.kept hg491 (by simp; omega);exact ⟨i + 1, v480, ls ++ [(n279, n447, n370)], a448, e449, g.sub ⟨rfl, rfl, rfl, rfl, rfl, rfl, trivial⟩, rfl, by omega, by first | rfl | (simp; omega), by first | rfl | exact hR', hk489', ho499, (row_eq hr500 (rfl)), hB501, hk508⟩
   refine dr_op (i := 9) g rfl rfl rfl rfl (op_new (v := fun N => .slice (some ⟨N, 0, none⟩) 1 1) (T := 134) (cs := #[.string n279, .string n447, .bool n370]) (by kernel_rfl) (by kernel_rfl) (by kernel_rfl)) ?_ ?_
   ·
    rintro _ w510 ⟨N511, rfl, hN514, hz515, hk513, hg512⟩;have hr517 := row_kept_new hf100 hg177;have hr518 := row_kept_at hr517 hg286 (row_ne_lt hr517 (by omega));have hr519 := row_kept_at hr518 hg377 (row_ne_lt hr518 (by omega));have hr520 := row_kept_at hr519 hg454 (row_ne_lt hr519 (by omega));have ha516 := row_fresh hr520 hN514;have hz521 := hg512.size;have hB522 := hb_new hB457 hg512;exact hB522
   rintro _ w510 a509 ⟨N511, rfl, hN514, hz515, hk513, hg512⟩ g;have hr517 := row_kept_new hf100 hg177;have hr518 := row_kept_at hr517 hg286 (row_ne_lt hr517 (by omega));have hr519 := row_kept_at hr518 hg377 (row_ne_lt hr518 (by omega));have hr520 := row_kept_at hr519 hg454 (row_ne_lt hr519 (by omega));have ha516 := row_fresh hr520 hN514;have hz521 := hg512.size
   try dsimp only at g
   have hB522 := hb_new hB457 hg512;refine dr_many [1] (by kernel_rfl) (by simp) ⟨?_, trivial⟩;have hk523 := hf98.kept hg177 (by simp);have hk524 := hk523.kept hg286 (by simp; omega);have hk525 := hk524.kept hg377 (by simp; omega);have hk526 := hk525.kept hg454 (by simp; omega);have hk527 := hk526.kept hg512 (by simp);refine dr_opVal (i := 1) (v := u) g rfl rfl rfl rfl (by kernel_rfl) rfl (rn_load1 rfl rfl Tryz.isAgg27 (hk527.cell rfl)) hB522 (fun _ g => ?_);have hr534 := row_kept_new hr520 hg512;refine d1 10 g rfl rfl (op_append rfl (N49 + 1) 134 (z := .agg #[.string (⟨#[]⟩), .string (⟨#[]⟩), .bool false]) (size := 3) (bytes := 40) Tryz.underlying27 (by kernel_rfl) rfl rfl rfl hr534 rfl hk513 rfl (by kernel_rfl) (by first | omega | (simp only [List.length_nil, List.length_append, List.length_cons, List.length_take, List.length_drop]; omega)) (by first | omega | (simp only [List.length_nil, List.length_append, List.length_cons, List.length_take, List.length_drop]; omega)) (by omega)) ?_ ?_
   ·
    rintro v531 w530 ⟨hr532, hg533⟩;have hr532' : w530.ownsRow (N49 + 1) 134 3 v531 ((ls ++ [(n279, n447, n370)]).length) ((ls ++ [(n279, n447, n370)]).flatMap opE) := row_push (y := (n279, n447, n370)) hr532 rfl rfl;have hz535 := hg533.size;have hB536 := hb_row hB522 hr534 (by omega) hg533;exact hB536
   rintro v531 w530 a529 ⟨hr532, hg533⟩ g;have hr532' : w530.ownsRow (N49 + 1) 134 3 v531 ((ls ++ [(n279, n447, n370)]).length) ((ls ++ [(n279, n447, n370)]).flatMap opE) := row_push (y := (n279, n447, n370)) hr532 rfl rfl;have hz535 := hg533.size;have hB536 := hb_row hB522 hr534 (by omega) hg533;refine dk0 11 (v := pt N49 2) g rfl rfl hB536 fun _ g => ?_;have hk543 := hk527.kept hg533 (row_ne_lt hr534 (by omega));refine d1D 12 g rfl rfl (op_store1 rfl rfl rfl (row_one hr532') Tryz.sizeOf27 hk543 rfl) ?_ ?_
   ·
    rintro _ w539 ⟨hk540, hz541, hg542⟩;have hk540' : Blk w539 N49 29 #[.int .i64 n23, .int .i64 n36, v531] := hk540;have hz544 := hg542.size;have hB545 := hb_at hB536 hg542 (by omega);exact hB545
   rintro _ w539 a538 ⟨hk540, hz541, hg542⟩ g;have hk540' : Blk w539 N49 29 #[.int .i64 n23, .int .i64 n36, v531] := hk540;have hz544 := hg542.size;refine dr_done (by kernel_rfl) ?_;refine co_blockN <| co_then <| co_reg ?_;refine pk (v := .int .i64 ((i + 1 : Nat) : Int)) g rfl (rn_arith' rfl rfl rfl rfl rfl rfl (IntWalk.i64_in _ (by omega)) (by omega)) fun _ g => ?_;refine pk0 (v := .int .i64 ((i + 1 : Nat) : Int)) g rfl fun _ g => q1 ?_;refine ⟨(n64.toNat - (i + 1)), by omega, ?_⟩;have hR' := rdN_step hR hq282 hq373 hq450;have ho547 := ho453.new hg512;have ho548 := ho547.row (row_ne_lt hr534 (by omega)) hg533;have ho549 := ho548.at (by omega) hg542;have hr550 := row_kept_at hr532' hg542 (row_ne_lt hr532' (by omega));have hB551 := hb_at hB536 hg542 (by omega);have hk552 := hk102.kept hg177 (by simp);have hk553 := hk552.kept hg286 (by simp; omega);have hk554 := hk553.kept hg377 (by simp; omega);have hk555 := hk554.kept hg454 (by simp; omega);have hk556 := hk555.kept hg512 (by simp);have hk557 := hk556.kept hg533 (row_ne_lt hr534 (by omega));have hk558 := hk557.kept hg542 (by simp; omega);exact ⟨i + 1, v531, ls ++ [(n279, n447, n370)], a448, e449, g.sub ⟨rfl, rfl, rfl, rfl, rfl, rfl, trivial⟩, rfl, by omega, by first | rfl | (simp; omega), by first | rfl | exact hR', hk540', ho549, (row_eq hr550 (rfl)), hB551, hk558⟩
set_option maxRecDepth 100000 in
theorem ropsOf_any (s : ByteArray) (c : Int) (r : Int) (l : List OpT) (x : Int) (w : World) (hsz : s.size ≤ 9223372036854775807) (hof : ofB s = ((c, r, l), x)) :
    Calls Tryz.prog 133 #[.string s] w fun e w' => ∃ (u : Value), e = .returned (.tuple #[.agg #[.int .i64 c, .int .i64 r, u], .int .i64 x]) ∧ w'.ownsRow w.heap.size 134 3 u l.length (l.flatMap opE) ∧ Below w.heap.size w w' := by
 have hB0 := Below.refl w.heap.size w;refine co_enter (n := 57) Tryz.func133 rfl rfl rfl [(0, .string s)] rfl (fun a g => ?_);refine q2 ?_;refine pw g rfl (op_new (v := fun N => pt N 0) (T := 29) (cs := #[.int .i64 0, .int .i64 0, .slice none 0 0]) (by kernel_rfl) (by kernel_rfl) (by kernel_rfl)) ?_;rintro _ w2 a1 ⟨N3, rfl, hN6, hz7, hk5, hg4⟩ g;have hz8 := hg4.size
 try dsimp only at g
 refine pk0 (v := .int .i64 0) g rfl fun _ g => q3 ?_;refine pk0 (v := .string s) g rfl fun _ g => ?_;refine pk0 (v := .agg #[.string s, .int .i64 0, .int .i64 0]) g rfl fun _ g => ?_;refine pw g rfl (op_new (v := fun N => pt N 0) (T := 94) (cs := #[.string s, .int .i64 0, .int .i64 0]) (by kernel_rfl) (by kernel_rfl) (by kernel_rfl)) ?_;rintro _ w13 a12 ⟨N14, rfl, hN17, hz18, hk16, hg15⟩ g;have hz19 := hg15.size
 try dsimp only at g
 refine pk0 (v := pt N14 0) g rfl fun _ g => q3 ?_;refine pk0 (v := .agg #[.int .i64 0, .int .i64 0, .slice none 0 0]) g rfl fun _ g => ?_;refine pw g rfl (op_new (v := fun N => pt N 0) (T := 29) (cs := #[.int .i64 0, .int .i64 0, .slice none 0 0]) (by kernel_rfl) (by kernel_rfl) (by kernel_rfl)) ?_;rintro _ w23 a22 ⟨N24, rfl, hN27, hz28, hk26, hg25⟩ g;have hz29 := hg25.size
 try dsimp only at g
 refine pwD g rfl (op_storeN rfl rfl rfl (all_cons rfl (all_cons rfl (all_cons rfl all_nil))) (by kernel_rfl) hk26 rfl) ?_;rintro _ w31 a30 ⟨hk32, hz33, hg34⟩ g;have hk32' : Blk w31 N24 29 #[.int .i64 0, .int .i64 0, .slice none 0 0] := hk32;have hz35 := hg34.size;refine q3 ?_;refine pk0 (v := pt N14 0) g rfl fun _ g => ?_;have hk40 := hk16.kept hg25 (by simp);have hk41 := hk40.kept hg34 (by simp; omega);have ho39 := oxr_of hk41;refine pw g rfl (op_call (args := #[pt N14 0, .int .i64 2]) (R := fun res xw => ∃ (n : Int) (a' e' : Int), res = .int .i64 n ∧ numR s 0 0 2 = (n, a', e') ∧ 0 ≤ n ∧ n ≤ 2 ∧ OXR N14 s a' e' xw ∧ w31.grownBy xw (some N14)) rfl rfl rfl (by kernel_rfl) (by kernel_rfl) (Tryz.call51 _ _) (oxr_num N14 s 0 0 2 w31 ho39 (by omega) (by omega) (by omega)) (by rintro q x ⟨n, a', e', rfl, h0, k0, k1, h1, h2⟩; exact ⟨_, rfl, n, a', e', rfl, h0, k0, k1, h1, h2⟩)) ?_;rintro _ w38 a37 ⟨n42, a43, e44, rfl, hq45, hn46, hm47, ho48, hg49⟩ g;have hz50 := hg49.size;have hl51 := ho48.lt;refine pk0 (v := pt N24 0) g rfl fun _ g => ?_;have hk58 := hk32'.kept hg49 (by simp; omega);refine pwD g rfl (op_store1 rfl rfl rfl rfl Tryz.sizeOf3 hk58 rfl) ?_;rintro _ w54 a53 ⟨hk55, hz56, hg57⟩ g;have hk55' : Blk w54 N24 29 #[.int .i64 n42, .int .i64 0, .slice none 0 0] := hk55;have hz59 := hg57.size;refine q3 ?_;refine pk0 (v := pt N14 0) g rfl fun _ g => ?_;have ho71 := ho48.at (by omega) hg57;refine pw g rfl (op_call (args := #[pt N14 0, .int .i64 1073741824]) (R := fun res xw => ∃ (n : Int) (a' e' : Int), res = .int .i64 n ∧ numR s a43 e44 1073741824 = (n, a', e') ∧ 0 ≤ n ∧ n ≤ 1073741824 ∧ OXR N14 s a' e' xw ∧ w54.grownBy xw (some N14)) rfl rfl rfl (by kernel_rfl) (by kernel_rfl) (Tryz.call51 _ _) (oxr_num N14 s a43 e44 1073741824 w54 ho71 (by omega) (by omega) (by omega)) (by rintro q x ⟨n, a', e', rfl, h0, k0, k1, h1, h2⟩; exact ⟨_, rfl, n, a', e', rfl, h0, k0, k1, h1, h2⟩)) ?_;rintro _ w62 a61 ⟨n63, a64, e65, rfl, hq66, hn67, hm68, ho69, hg70⟩ g;have hz72 := hg70.size;have hl73 := ho69.lt;refine pk0 (v := pt N24 1) g rfl fun _ g => ?_;have hk80 := hk55'.kept hg70 (by simp; omega);refine pwD g rfl (op_store1 rfl rfl rfl rfl Tryz.sizeOf3 hk80 rfl) ?_;rintro _ w76 a75 ⟨hk77, hz78, hg79⟩ g;have hk77' : Blk w76 N24 29 #[.int .i64 n42, .int .i64 n63, .slice none 0 0] := hk77;have hz81 := hg79.size;refine q3 ?_;refine pk0 (v := pt N14 0) g rfl fun _ g => ?_;have ho93 := ho69.at (by omega) hg79;refine pw g rfl (op_call (args := #[pt N14 0, .int .i64 4]) (R := fun res xw => ∃ (n : Int) (a' e' : Int), res = .int .i64 n ∧ numR s a64 e65 4 = (n, a', e') ∧ 0 ≤ n ∧ n ≤ 4 ∧ OXR N14 s a' e' xw ∧ w76.grownBy xw (some N14)) rfl rfl rfl (by kernel_rfl) (by kernel_rfl) (Tryz.call51 _ _) (oxr_num N14 s a64 e65 4 w76 ho93 (by omega) (by omega) (by omega)) (by rintro q x ⟨n, a', e', rfl, h0, k0, k1, h1, h2⟩; exact ⟨_, rfl, n, a', e', rfl, h0, k0, k1, h1, h2⟩)) ?_;rintro _ w84 a83 ⟨n85, a86, e87, rfl, hq88, hn89, hm90, ho91, hg92⟩ g;have hz94 := hg92.size;have hl95 := ho91.lt;refine pk0 (v := .int .i64 n85) g rfl fun _ g => q6 ?_;refine pk0 (v := .int .i64 0) g rfl fun _ g => q1 <| wp_block ?_;have g : Slots 57 [(2, pt N3 0), (3, .int .i64 0), (4, pt N14 0), (5, pt N24 0), (6, .int .i64 n85), (7, .int .i64 0)] _ := g.sub ⟨rfl, rfl, rfl, rfl, rfl, rfl, trivial⟩;refine co_loop (fun mm a x => ∃ (i : Nat) (u : Value) (ls : List OpT) (ps : Int) (er : Int), Slots 57 [(2, pt N3 0), (3, .int .i64 0), (4, pt N14 0), (5, pt N24 0), (6, .int .i64 n85), (7, .int .i64 (i : Int))] a ∧ mm = n85.toNat - i ∧ ((i : Int) ≤ n85) ∧ (ls.length = i) ∧ (rdN s i ([], a86, e87) = (ls, ps, er)) ∧ Blk x N24 29 #[.int .i64 n42, .int .i64 n63, u] ∧ OXR N14 s ps er x ∧ x.ownsRow (N24 + 1) 134 3 u ls.length (ls.flatMap opE) ∧ Below w.heap.size w x ∧ Blk x N3 29 #[.int .i64 0, .int .i64 0, .slice none 0 0]) (n85.toNat - 0) ?_ ?_;have hk99 := hk77'.kept hg92 (by simp; omega);have hB100 := hb_new hB0 hg4;have hB101 := hb_new hB100 hg15;have hB102 := hb_new hB101 hg25;have hB103 := hb_at hB102 hg34 (by omega);have hB104 := hb_at hB103 hg49 (by omega);have hB105 := hb_at hB104 hg57 (by omega);have hB106 := hb_at hB105 hg70 (by omega);have hB107 := hb_at hB106 hg79 (by omega);have hB108 := hb_at hB107 hg92 (by omega);have hk109 := hk5.kept hg15 (by simp);have hk110 := hk109.kept hg25 (by simp);have hk111 := hk110.kept hg34 (by simp; omega);have hk112 := hk111.kept hg49 (by simp; omega);have hk113 := hk112.kept hg57 (by simp; omega);have hk114 := hk113.kept hg70 (by simp; omega);have hk115 := hk114.kept hg79 (by simp; omega);have hk116 := hk115.kept hg92 (by simp; omega)
 · exact ⟨0, (.slice none 0 0), [], a86, e87, g.sub ⟨rfl, rfl, rfl, rfl, rfl, (slot_eq rfl (congrArg (Value.int .i64) (by first | rfl | omega))), trivial⟩, rfl, by omega, by first | rfl | (simp; omega), by first | rfl | exact hR', hk99, ho91, (row_nilL _ _ _ _ _), hB108, hk116⟩
 · rintro k117 a118 w119 ⟨i, u, ls, ps, er, g, rfl, hi120, hi121, hi122, hf123, hf124, hf125, hB126, hk127⟩
   have hz128 := hB126.size;have hl129 := hk127.lt;have hl130 := hf123.lt;have hl131 := hf124.lt;have hR : rdN s i ([], a86, e87) = (ls, ps, er) := by assumption
   refine q9 ?_;refine pk0 (v := .int .i64 (i : Int)) g rfl fun _ g => ?_;refine pk0 (v := .int .i64 n85) g rfl fun _ g => ?_;refine pk0 (v := .bool (decide ((i : Int) < n85))) g rfl fun _ g => q1 ?_;cases hc135 : (decide ((i : Int) < n85))
   ·
    rw [hc135] at g;have hp136 : ¬ ((i : Int) < n85) := of_decide_eq_false hc135;refine co_false g rfl <| wp_exit <| co_thenX <| co_thenX <| qx <| q9 ?_;refine pk0 (v := pt N14 0) g rfl fun _ g => ?_;refine pw g rfl (op_call (args := #[pt N14 0]) (R := fun res xw => ∃ r : Int, res = .int .i64 r ∧ endV s ps.toNat er = r ∧ Below w119.heap.size w119 xw) rfl rfl rfl (by kernel_rfl) (by kernel_rfl) (Tryz.call53 _ _) (oxr_end N14 s ps er w119 hf124 (by omega)) (by rintro e x ⟨r, rfl, h0, h2⟩; exact ⟨_, rfl, r, rfl, h0, h2⟩)) ?_;rintro _ w139 a138 ⟨r140, rfl, hq141, hb142⟩ g;have hz143 := hb142.size;refine pk0 (v := .int .i64 r140) g rfl fun _ g => q3 ?_;refine pk0 (v := .int .i64 r140) g rfl fun _ g => ?_;refine pk0 (v := .bool (r140 != 0)) g rfl fun _ g => q1 ?_;have hB148 := hb_call hB126 hb142;cases hc147 : (r140 != 0)
    ·
     rw [hc147] at g;have hp149 : ¬ (r140 ≠ 0) := by first | simpa using hc147 | simpa [and_assoc] using hc147
     refine co_false g rfl <| q8 ?_;have hk150 := hf123.below hb142;refine pk (v := .agg #[.int .i64 n42, .int .i64 n63, u]) g rfl (rn_loadN rfl rfl Tryz.underlying29 rfl (by kernel_rfl) hk150.all) fun _ g => ?_;have hr154 := row_kept_new hf125 (below_grown hb142);refine pw g rfl (op_call (args := #[.agg #[.int .i64 n42, .int .i64 n63, u]]) (R := fun res xw => res = .int .i64 (chkB n42 n63 ls) ∧ Below w139.heap.size w139 xw) rfl rfl rfl (by kernel_rfl) (by kernel_rfl) (Tryz.call80 _ _) (ropsCheck_any n42 n63 u ls w139 (row_sl hr154 opE_len)) (by rintro e x ⟨rfl, hb155⟩; exact ⟨_, rfl, ⟨rfl, hb155⟩⟩)) ?_;rintro _ w153 a152 ⟨rfl, hb155⟩ g;have hz156 := hb155.size;refine pk0 (v := .int .i64 (chkB n42 n63 ls)) g rfl fun _ g => q3 ?_;refine pk0 (v := .int .i64 (chkB n42 n63 ls)) g rfl fun _ g => ?_;refine pk0 (v := .bool (chkB n42 n63 ls != 0)) g rfl fun _ g => q1 ?_;have hB161 := hb_call hB148 hb155;have hk162 := hk127.below hb142;have hk163 := hk162.below hb155;have ho164 := hf124.below hb142;have ho165 := ho164.below hb155;cases hc160 : (chkB n42 n63 ls != 0)
     ·
      rw [hc160] at g;have hp166 : ¬ (chkB n42 n63 ls ≠ 0) := by first | simpa using hc160 | simpa [and_assoc] using hc160
      refine co_false g rfl <| q7 ?_;have hk167 := hk150.below hb155;refine pk (v := .agg #[.int .i64 n42, .int .i64 n63, u]) g rfl (rn_loadN rfl rfl Tryz.underlying29 rfl (by kernel_rfl) hk167.all) fun _ g => ?_;have hr174 := row_kept_new hr154 (below_grown hb155);refine pwD g rfl (op_storeN rfl rfl rfl (all_cons rfl (all_cons rfl (all_cons (row_one hr174) all_nil))) (by kernel_rfl) hk163 rfl) ?_;rintro _ w170 a169 ⟨hk171, hz172, hg173⟩ g;have hk171' : Blk w170 N3 29 #[.int .i64 n42, .int .i64 n63, u] := hk171;have hz175 := hg173.size;refine pk0 (v := .int .i64 0) g rfl fun _ g => q4 ?_;refine co_retC1 (Q := fun _ _ _ => True) g rfl rfl rfl hk171' Tryz.underlying29 rfl (by kernel_rfl) ?_;have hr177 := row_kept_at hr174 hg173 (row_ne_lt hr174 (by omega));have hB178 := hb_at hB161 hg173 (by omega);cases hof.symm.trans ((ofB_at hq45 hq66 hq88 hR (by omega) hq141).trans (ofEnd_c (by assumption) (by assumption)));exact ⟨_, rfl, (row_lows hr177 (by omega)), hB178⟩
     rw [hc160] at g;have hp179 : chkB n42 n63 ls ≠ 0 := by first | simpa using hc160 | simpa [and_assoc] using hc160
     refine co_true g rfl <| q2 ?_;refine pk0 (v := .agg #[.int .i64 0, .int .i64 0, .slice none 0 0]) g rfl fun _ g => ?_;refine pk0 (v := .int .i64 (chkB n42 n63 ls)) g rfl fun _ g => ?_;refine pwD g rfl (op_storeN rfl rfl rfl (all_cons rfl (all_cons rfl (all_cons rfl all_nil))) (by kernel_rfl) hk163 rfl) ?_;rintro _ w183 a182 ⟨hk184, hz185, hg186⟩ g;have hk184' : Blk w183 N3 29 #[.int .i64 0, .int .i64 0, .slice none 0 0] := hk184;have hz187 := hg186.size;refine pk0 (v := .int .i64 (chkB n42 n63 ls)) g rfl fun _ g => q5 ?_;refine co_retC1 (Q := fun _ _ _ => True) g rfl rfl rfl hk184' Tryz.underlying29 rfl (by kernel_rfl) ?_;have hB189 := hb_at hB161 hg186 (by omega);cases hof.symm.trans ((ofB_at hq45 hq66 hq88 hR (by omega) hq141).trans (ofEnd_b (by assumption) (by assumption)));exact ⟨_, rfl, (row_nilL _ _ _ _ _), hB189⟩
    rw [hc147] at g;have hp190 : r140 ≠ 0 := by first | simpa using hc147 | simpa [and_assoc] using hc147
    refine co_true g rfl <| q2 ?_;refine pk0 (v := .agg #[.int .i64 0, .int .i64 0, .slice none 0 0]) g rfl fun _ g => ?_;refine pk0 (v := .int .i64 r140) g rfl fun _ g => ?_;have hk198 := hk127.below hb142;refine pwD g rfl (op_storeN rfl rfl rfl (all_cons rfl (all_cons rfl (all_cons rfl all_nil))) (by kernel_rfl) hk198 rfl) ?_;rintro _ w194 a193 ⟨hk195, hz196, hg197⟩ g;have hk195' : Blk w194 N3 29 #[.int .i64 0, .int .i64 0, .slice none 0 0] := hk195;have hz199 := hg197.size;refine pk0 (v := .int .i64 r140) g rfl fun _ g => q5 ?_;refine co_retC1 (Q := fun _ _ _ => True) g rfl rfl rfl hk195' Tryz.underlying29 rfl (by kernel_rfl) ?_;have hB201 := hb_at hB148 hg197 (by omega);cases hof.symm.trans ((ofB_at hq45 hq66 hq88 hR (by omega) hq141).trans (ofEnd_a (by assumption)));exact ⟨_, rfl, (row_nilL _ _ _ _ _), hB201⟩
   rw [hc135] at g;have hp202 : (i : Int) < n85 := of_decide_eq_true hc135;refine co_true g rfl <| q0 <| co_seq <| wp_block <| q2 ?_;refine pk0 (v := .agg #[.string (⟨#[]⟩), .string (⟨#[]⟩), .bool false]) g rfl fun _ g => ?_;refine pw g rfl (op_new (v := fun N => pt N 0) (T := 134) (cs := #[.string (⟨#[]⟩), .string (⟨#[]⟩), .bool false]) (by kernel_rfl) (by kernel_rfl) (by kernel_rfl)) ?_;rintro _ w205 a204 ⟨N206, rfl, hN209, hz210, hk208, hg207⟩ g;have ha211 := row_fresh hf125 hN209;have hz212 := hg207.size
   try dsimp only at g
   refine pwD g rfl (op_storeN rfl rfl rfl (by kernel_rfl) (by kernel_rfl) hk208 rfl) ?_;rintro _ w214 a213 ⟨hk215, hz216, hg217⟩ g;have hk215' : Blk w214 N206 134 #[.string (⟨#[]⟩), .string (⟨#[]⟩), .bool false] := hk215;have hz218 := hg217.size;refine q3 ?_;refine pk0 (v := pt N14 0) g rfl fun _ g => ?_;have ho230 := hf124.new hg207;have ho231 := ho230.at (by omega) hg217;refine pw g rfl (op_call (args := #[pt N14 0, .int .i64 8]) (R := fun res xw => ∃ (n : ByteArray) (a' e' : Int), res = .string n ∧ textR s ps er 8 = (n, a', e') ∧ (n.size : Int) ≤ 8 ∧ OXR N14 s a' e' xw ∧ w214.grownBy xw (some N14)) rfl rfl rfl (by kernel_rfl) (by kernel_rfl) (Tryz.call108 _ _) (oxr_text N14 s ps er 8 w214 ho231 (by omega) (by omega) (by omega)) (by rintro q x ⟨n, a', e', rfl, h0, k0, h1, h2⟩; exact ⟨_, rfl, n, a', e', rfl, h0, k0, h1, h2⟩)) ?_;rintro _ w221 a220 ⟨n222, a223, e224, rfl, hq225, hn226, ho228, hg229⟩ g;have hz232 := hg229.size;have hl233 := ho228.lt;refine pk0 (v := pt N206 0) g rfl fun _ g => ?_;have hk240 := hk215'.kept hg229 (by simp; omega);refine pwD g rfl (op_store1 rfl rfl rfl rfl Tryz.sizeOf9 hk240 rfl) ?_;rintro _ w236 a235 ⟨hk237, hz238, hg239⟩ g;have hk237' : Blk w236 N206 134 #[.string n222, .string (⟨#[]⟩), .bool false] := hk237;have hz241 := hg239.size;refine q3 ?_;refine pk0 (v := pt N14 0) g rfl fun _ g => ?_;have ho253 := ho228.at (by omega) hg239;refine pw g rfl (op_call (args := #[pt N14 0]) (R := fun res xw => ∃ (n : Bool) (a' e' : Int), res = .bool n ∧ flagR s a223.toNat e224 = (n, a', e') ∧ OXR N14 s a' e' xw ∧ w236.grownBy xw (some N14)) rfl rfl rfl (by kernel_rfl) (by kernel_rfl) (Tryz.call107 _ _) (oxr_flag N14 s a223 e224 w236 ho253 (by omega)) (by rintro q x ⟨n, a', e', rfl, h0, h1, h2⟩; exact ⟨_, rfl, n, a', e', rfl, h0, h1, h2⟩)) ?_;rintro _ w244 a243 ⟨n245, a246, e247, rfl, hq248, ho251, hg252⟩ g;have hz254 := hg252.size;have hl255 := ho251.lt;refine pk0 (v := pt N206 2) g rfl fun _ g => ?_;have hk262 := hk237'.kept hg252 (by simp; omega);refine pwD g rfl (op_store1 rfl rfl rfl rfl Tryz.sizeOf4 hk262 rfl) ?_;rintro _ w258 a257 ⟨hk259, hz260, hg261⟩ g;have hk259' : Blk w258 N206 134 #[.string n222, .string (⟨#[]⟩), .bool n245] := hk259;have hz263 := hg261.size;refine q3 ?_;refine pk0 (v := pt N14 0) g rfl fun _ g => ?_;have ho275 := ho251.at (by omega) hg261;refine pw g rfl (op_call (args := #[pt N14 0, .int .i64 8]) (R := fun res xw => ∃ (n : ByteArray) (a' e' : Int), res = .string n ∧ textR s a246 e247 8 = (n, a', e') ∧ (n.size : Int) ≤ 8 ∧ OXR N14 s a' e' xw ∧ w258.grownBy xw (some N14)) rfl rfl rfl (by kernel_rfl) (by kernel_rfl) (Tryz.call108 _ _) (oxr_text N14 s a246 e247 8 w258 ho275 (by omega) (by omega) (by omega)) (by rintro q x ⟨n, a', e', rfl, h0, k0, h1, h2⟩; exact ⟨_, rfl, n, a', e', rfl, h0, k0, h1, h2⟩)) ?_;rintro _ w266 a265 ⟨n267, a268, e269, rfl, hq270, hn271, ho273, hg274⟩ g;have hz276 := hg274.size;have hl277 := ho273.lt;refine pk0 (v := pt N206 1) g rfl fun _ g => ?_;have hk284 := hk259'.kept hg274 (by simp; omega);refine pwD g rfl (op_store1 rfl rfl rfl rfl Tryz.sizeOf9 hk284 rfl) ?_;rintro _ w280 a279 ⟨hk281, hz282, hg283⟩ g;have hk281' : Blk w280 N206 134 #[.string n222, .string n267, .bool n245] := hk281;have hz285 := hg283.size;refine q1 <| co_reg ?_;refine pk0 (v := pt N24 2) g rfl fun _ g => ?_;have hk287 := hf123.kept hg207 (by simp);have hk288 := hk287.kept hg217 (by simp; omega);have hk289 := hk288.kept hg229 (by simp; omega);have hk290 := hk289.kept hg239 (by simp; omega);have hk291 := hk290.kept hg252 (by simp; omega);have hk292 := hk291.kept hg261 (by simp; omega);have hk293 := hk292.kept hg274 (by simp; omega);have hk294 := hk293.kept hg283 (by simp; omega);refine pk (v := u) g rfl (rn_load1 rfl rfl Tryz.isAgg27 (hk294.cell rfl)) fun _ g => ?_;refine pk (v := .agg #[.string n222, .string n267, .bool n245]) g rfl (rn_loadN rfl rfl Tryz.underlying134 rfl (by kernel_rfl) hk281'.all) fun _ g => ?_;refine pw g rfl (op_new (v := fun N => .slice (some ⟨N, 0, none⟩) 1 1) (T := 134) (cs := #[.string n222, .string n267, .bool n245]) (by kernel_rfl) (by kernel_rfl) (by kernel_rfl)) ?_;rintro _ w298 a297 ⟨N299, rfl, hN302, hz303, hk301, hg300⟩ g;have hr305 := row_kept_new hf125 hg207;have hr306 := row_kept_at hr305 hg217 (ha211);have hr307 := row_kept_at hr306 hg229 (row_ne_lt hr306 (by omega));have hr308 := row_kept_at hr307 hg239 (ha211);have hr309 := row_kept_at hr308 hg252 (row_ne_lt hr308 (by omega));have hr310 := row_kept_at hr309 hg261 (ha211);have hr311 := row_kept_at hr310 hg274 (row_ne_lt hr310 (by omega));have hr312 := row_kept_at hr311 hg283 (ha211);have ha304 := row_fresh hr312 hN302;have hz313 := hg300.size
   try dsimp only at g
   have hr319 := row_kept_new hr312 hg300;refine pw g rfl (op_append rfl (N24 + 1) 134 (z := .agg #[.string (⟨#[]⟩), .string (⟨#[]⟩), .bool false]) (size := 3) (bytes := 40) Tryz.underlying27 (by kernel_rfl) rfl rfl rfl hr319 rfl hk301 rfl (by kernel_rfl) (by first | omega | (simp only [List.length_nil, List.length_append, List.length_cons, List.length_take, List.length_drop]; omega)) (by first | omega | (simp only [List.length_nil, List.length_append, List.length_cons, List.length_take, List.length_drop]; omega)) (by omega)) ?_;rintro v316 w315 a314 ⟨hr317, hg318⟩ g;have hr317' : w315.ownsRow (N24 + 1) 134 3 v316 ((ls ++ [(n222, n267, n245)]).length) ((ls ++ [(n222, n267, n245)]).flatMap opE) := row_push (y := (n222, n267, n245)) hr317 rfl rfl;have hz320 := hg318.size;refine pk0 (v := pt N24 2) g rfl fun _ g => ?_;have hk327 := hk294.kept hg300 (by simp);have hk328 := hk327.kept hg318 (row_ne_lt hr319 (by omega));refine pwD g rfl (op_store1 rfl rfl rfl (row_one hr317') Tryz.sizeOf27 hk328 rfl) ?_;rintro _ w323 a322 ⟨hk324, hz325, hg326⟩ g;have hk324' : Blk w323 N24 29 #[.int .i64 n42, .int .i64 n63, v316] := hk324;have hz329 := hg326.size;refine pl_nil <| co_blockN <| co_then <| co_reg ?_;refine pk0 (v := .int .i64 (i : Int)) g rfl fun _ g => ?_;refine pk (v := .int .i64 ((i + 1 : Nat) : Int)) g rfl (rn_arith' rfl rfl rfl rfl rfl rfl (IntWalk.i64_in _ (by omega)) (by omega)) fun _ g => ?_;refine pk0 (v := .int .i64 ((i + 1 : Nat) : Int)) g rfl fun _ g => q1 ?_;refine ⟨(n85.toNat - (i + 1)), by omega, ?_⟩;have hR' := rdN_step hR hq225 hq248 hq270;have ho333 := ho273.at (by omega) hg283;have ho334 := ho333.new hg300;have ho335 := ho334.row (row_ne_lt hr319 (by omega)) hg318;have ho336 := ho335.at (by omega) hg326;have hr337 := row_kept_at hr317' hg326 (row_ne_lt hr317' (by omega));have hB338 := hb_new hB126 hg207;have hB339 := hb_at hB338 hg217 (by omega);have hB340 := hb_at hB339 hg229 (by omega);have hB341 := hb_at hB340 hg239 (by omega);have hB342 := hb_at hB341 hg252 (by omega);have hB343 := hb_at hB342 hg261 (by omega);have hB344 := hb_at hB343 hg274 (by omega);have hB345 := hb_at hB344 hg283 (by omega);have hB346 := hb_new hB345 hg300;have hB347 := hb_row hB346 hr319 (by omega) hg318;have hB348 := hb_at hB347 hg326 (by omega);have hk349 := hk127.kept hg207 (by simp);have hk350 := hk349.kept hg217 (by simp; omega);have hk351 := hk350.kept hg229 (by simp; omega);have hk352 := hk351.kept hg239 (by simp; omega);have hk353 := hk352.kept hg252 (by simp; omega);have hk354 := hk353.kept hg261 (by simp; omega);have hk355 := hk354.kept hg274 (by simp; omega);have hk356 := hk355.kept hg283 (by simp; omega);have hk357 := hk356.kept hg300 (by simp);have hk358 := hk357.kept hg318 (row_ne_lt hr319 (by omega));have hk359 := hk358.kept hg326 (by simp; omega);exact ⟨i + 1, v316, ls ++ [(n222, n267, n245)], a268, e269, g.sub ⟨rfl, rfl, rfl, rfl, rfl, rfl, trivial⟩, rfl, by omega, by first | rfl | (simp; omega), by first | rfl | exact hR', hk324', ho336, (row_eq hr337 (rfl)), hB348, hk359⟩
end Go.Proofs.YtcbagajjgbfgdaaGreat

/- Readers: big numbers, the error so far. Conditions: none. -/
namespace Go.Proofs.YtcbagajjgbfgdaaGreat
open Go.RowKit Go.PlainAid
set_option linter.unusedVariables false
section
variable {w x : World} {b N : Nat} {s : ByteArray} {a e : Int}
theorem getR_lt (s : ByteArray) (a : Int) : (getR s a).1 < 18446744073709551616 := by
  unfold getR
  have hb2 := bt_le s a.toNat
  split
  · decide
  split
  · decide
  split
  · show bt s a.toNat < _; omega
  split
  · decide
  split
  · show val s (a.toNat + 1) (bt s a.toNat - 247).toNat < _
    have h1 := val_lt s (a.toNat + 1) (bt s a.toNat - 247).toNat
    have hk : (bt s a.toNat - 247).toNat ≤ 8 := by omega
    have h2 : (256 : Nat) ^ (bt s a.toNat - 247).toNat ≤ 256 ^ 8 := Nat.pow_le_pow_right (by decide) hk
    have h3 : ((256 : Int) ^ (bt s a.toNat - 247).toNat) = ((256 ^ (bt s a.toNat - 247).toNat : Nat) : Int) := by rw [Int.natCast_pow]; rfl
    have h4 : (256 : Nat) ^ 8 = 18446744073709551616 := by decide
    omega
  · decide
theorem bigR_le {s : ByteArray} {a x : Int} : 0 ≤ (bigR s a x).1 ∧ (bigR s a x).1 < 18446744073709551616 := by
  have h1 := getR_range s a
  have h2 := getR_lt s a
  unfold bigR
  split
  · exact ⟨Int.le_refl _, by show (0 : Int) < _; decide⟩
  · dsimp only
    split
    · exact ⟨h1, h2⟩
    · exact ⟨Int.le_refl _, by decide⟩
theorem or_big (b : Nat) (s : ByteArray) (a e : Int) (w : World) (h : OR b s a e w) (hs : s.size ≤ 9223372036854775807) :
    Calls Tryz.prog 98 #[.pointer (some ⟨b, 0, none⟩)] w fun e1 w' => ∃ n a' e', e1 = .returned (.int .u64 n) ∧ bigR s a e = (n, a', e') ∧ 0 ≤ n ∧ n < 18446744073709551616 ∧ OR b s a' e' w' ∧ w.grownBy w' (some b) :=
  (rBig_re b s a e w h.re hs).mono (by
    rintro e1 x ⟨rfl, hw, hb⟩
    exact ⟨_, _, _, rfl, rfl, bigR_le.1, bigR_le.2, ⟨hw, bigR_at⟩, but_grown hb⟩)
theorem oxr_big (b : Nat) (s : ByteArray) (a e : Int) (w : World) (h : OXR b s a e w) (hs : s.size ≤ 9223372036854775807) :
    Calls Tryz.prog 106 #[.pointer (some ⟨b, 0, none⟩)] w fun e1 w' => ∃ n a' e', e1 = .returned (.int .u64 n) ∧ bigR s a e = (n, a', e') ∧ 0 ≤ n ∧ n < 18446744073709551616 ∧ OXR b s a' e' w' ∧ w.grownBy w' (some b) :=
  (xrBig_re b s a e w h.re hs).mono (by
    rintro e1 x ⟨rfl, hw, hb⟩
    exact ⟨_, _, _, rfl, rfl, bigR_le.1, bigR_le.2, ⟨hw, bigR_at⟩, but_grown hb⟩)
theorem or_err (b : Nat) (s : ByteArray) (a e : Int) (w : World) (h : OR b s a e w) :
    Calls Tryz.prog 48 #[.pointer (some ⟨b, 0, none⟩)] w fun e1 w' => e1 = .returned (.int .i64 e) ∧ w = w' := err_re b s a e w h.re
end
end Go.Proofs.YtcbagajjgbfgdaaGreat

/- Stores into a part of a block; walks that may turn some blocks that were there (S). Conditions: none. -/
namespace Go.Proofs.YtcbagajjgbfgdaaGreat
open Go.RowKit
set_option linter.unusedVariables false

section
variable {P : Program} {n : Nat} {m : List (Nat × Value)} {w x w0 : World} {o : Oper} {N : Nat} {T : TypeId} {cs : Array Value} {S : Nat → Prop}
theorem op_storePart {t : TypeId} {p q : Operand} {cells cs' : Array Value} {k : Nat} (ho : o.op = .store t p q) (hp : ev m p = some (.pointer (some ⟨N, k, none⟩))) (hq : ev m q = some (.agg cells)) (h1 : cells.all (·.oneCell') = true) (hi : (P.info? t).map (·.size) = some cells.size)
    (hb : Blk w N T cs) (hk : Nat.ble (k + cells.size) cs.size = true) (he : (cs.toList.take k ++ cells.toList ++ cs.toList.drop (k + cells.size)).toArray = cs') : Op1 P n m o w (fun _ x => Blk x N T cs' ∧ x.heap.size = w.heap.size ∧ w.grownBy x (some N)) := by
  intro a ha K Q hN
  have hk' : k + cells.size ≤ cs.size := by simpa using hk
  have hthere : w.there N k cells.size := fun j hj => ⟨by rw [hb.cell (k := k + j) (v := cs[k + j]'(by omega)) (by rw [Array.getElem?_eq_getElem])]; rfl, hb.frozen _⟩
  refine wp_store_mid t p q ho N k cells (ha.ev hp) (ha.ev hq) hthere hi h1 (hN _ _ ⟨?_, ?_, ?_⟩)
  · have := setCells_blk cells.toList w cs k hb (by simpa using hk')
    simp only [Array.length_toList] at this
    rw [he] at this; exact this
  · have hsz : ∀ (vs : List Value) (k : Nat) (w : World), (w.setCells N k vs).heap.size = w.heap.size := by
      intro vs
      induction vs with
      | nil => intro k w; rfl
      | cons v r ih => intro k w; rw [World.setCells, ih]; simp [World.setCell]
    exact hsz _ _ _
  · have hg : ∀ (vs : List Value) (k : Nat) (w : World), w.grownBy (w.setCells N k vs) (some N) := by
      intro vs
      induction vs with
      | nil => intro k w; exact World.grownBy.refl _ _
      | cons v r ih => intro k w; rw [World.setCells]; exact (grown_setCell w N k v).trans (ih _ _)
    exact hg _ _ _
theorem fb_new (h : But S w0 w) (hg : w.grownBy x none) : But S w0 x := h.trans (But.of_below (grown_below hg))
theorem fb_call (h : But S w0 w) (hb : Below w.heap.size w x) : But S w0 x := h.trans (But.of_below hb)
theorem fb_at (h : But S w0 w) (hg : w.grownBy x (some N)) (hN : N < w0.heap.size → S N) : But S w0 x :=
  h.trans' (S' := fun k => some N = some k) (grown_but hg) (fun i hi e => by cases e; exact hN hi)
theorem fb_row {B sz k : Nat} {e : TypeId} {v : Value} {xs : List Value} (h : But S w0 w) (hr : w.ownsRow B e sz v k xs) (hB : w0.heap.size ≤ B) (hg : w.grownBy x v.ownBlock) : But S w0 x :=
  h.trans' (S' := fun k => v.ownBlock = some k) (grown_but hg) (fun i hi e => by have := (hr.lt i e).1; omega)
theorem fb_foot {S' : Nat → Prop} (h : But S w0 w) (hb : But S' w x) (hs : ∀ i, i < w0.heap.size → S' i → S i) : But S w0 x := h.trans' hb hs
theorem hb_foot {S' : Nat → Prop} (h : Below w0.heap.size w0 w) (hb : But S' w x) (hs : ∀ i, i < w.heap.size → S' i → w0.heap.size ≤ i) : Below w0.heap.size w0 x := below_but h hb h.size hs
theorem Blk.but (h : Blk w N T cs) (hb : But S w x) (hn : ¬ S N) : Blk x N T cs := by
  have hl := h.lt
  unfold Blk at h ⊢
  rw [hb.block N hl hn]; exact h
theorem own_but {B sz k : Nat} {e : TypeId} {v : Value} {xs : List Value} (h : w.ownsRow B e sz v k xs) (hb : But S w x) (hn : ∀ i, v.ownBlock = some i → ¬ S i) : x.ownsRow B e sz v k xs := by
  obtain ⟨h1, h2⟩ := h
  refine ⟨h1, ?_⟩
  rcases h2 with h2 | ⟨g, cap, cur, hv, hg, hh, r⟩
  · exact Or.inl h2
  · exact Or.inr ⟨g, cap, cur, hv, hg, by rw [hb.block g (Array.getElem?_eq_some_iff.1 hh).1 (hn g (by rw [hv]; rfl))]; exact hh, r⟩
theorem OR.but {b : Nat} {s : ByteArray} {a e : Int} (h : OR b s a e w) (hb : But S w x) (hn : ¬ S b) : OR b s a e x := ⟨h.re.but hb hn, h.pos⟩
theorem OXR.but {b : Nat} {s : ByteArray} {a e : Int} (h : OXR b s a e w) (hb : But S w x) (hn : ¬ S b) : OXR b s a e x := ⟨h.re.but hb hn, h.pos⟩
theorem OX.but {b : Nat} {l : List UInt8} {mm : Nat} (h : OX b l mm w) (hb : But S w x) (hn : ¬ S b) : OX b l mm x := ⟨h.wr.but hb hn, h.len⟩
end
end Go.Proofs.YtcbagajjgbfgdaaGreat
