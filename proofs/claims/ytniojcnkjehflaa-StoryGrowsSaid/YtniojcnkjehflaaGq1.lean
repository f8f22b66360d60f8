/- Put together: LibGp, PexGp, SlGp, PexBGp, AppGp, PexCGp, PexDGp, PexTGp, MapGp, MapBGp, MapCGp, MapRGp, MapOGp, ButGp, PexUGp, RlgOGp, OpenGp, StrsGp, EntRGp, PexVGp, RlgIGp, RlgAGp, RlgCGp, RlgDGp, ConfAzGp, ConfDzGp, PexSnGp, MeAGp, RelAGp, RlgHGp, StyAGp. Conditions: as each says. -/
import Derived.Test.YtniojcnkjehflaaRows
import Derived.WalkKit
import Derived.WalkSpells
import Derived.WalkLawsBesides
import Derived.Deep.LoopGhost
import Derived.Lib.Hide
import Derived.Laws.IdiomStrings
import Derived.Lib.QuietBelow
import Derived.BigQuiet
import Derived.PlainAid
import Derived.Lib.SmallJoins
import Derived.Deep.MidRow
import Derived.Deep.RegionHeld3
import Derived.Laws.AppendOwnNone
import Derived.Deep.AppendLies
import Derived.Deep.RegionLaw
import Derived.StringKeys
import Derived.Laws.StructEq
import Derived.Maps.RangeRun
import Derived.MapKept
import Derived.OwnWalk
import Derived.Lib.AppendStr
import Derived.Laws.BytesArg
import Derived.ProofKit
import Derived.Deep.Slices
import Derived.Deep.Fields
import Derived.SliceStrings
import Derived.SizedLaws
import Derived.Laws.Pointers
import Derived.Deep.QuietTactic
import Derived.Laws.RangeString
import Derived.Laws.Strings
import Derived.LoopN
/- Small laws on worlds, rows and bounds that the walks of this seat share. Conditions: none. -/
namespace Go.Proofs.Ytniojcnkjehflaa
open Go.RowKit

theorem ret_int {k : IntKind} {a b : Int} (h : a = b) : Ending.returned (.int k a) = .returned (.int k b) := by rw [h]
theorem ret_bool {a b : Bool} (h : a = b) : Ending.returned (.bool a) = .returned (.bool b) := by rw [h]
theorem wf_u64 {a : Int} (h : (Lit.int .u64 a).wf = true) : 0 ≤ a ∧ a < 18446744073709551616 := by
  have : 0 ≤ a ∧ a ≤ 18446744073709551615 := by simpa [Lit.wf, IntKind.min, IntKind.max, IntKind.signed, IntKind.bits] using h
  omega
theorem wf_i64 {a : Int} (h : (Lit.int .i64 a).wf = true) : -9223372036854775808 ≤ a ∧ a ≤ 9223372036854775807 := by
  simpa [Lit.wf, IntKind.min, IntKind.max, IntKind.signed, IntKind.bits] using h
/-- A cell of a world, read behind it. -/
theorem cell_below {w w' : World} (h : Below w.heap.size w w') {a : Addr} {v : Value} (hc : w.cell? a = some v) : w'.cell? a = some v :=
  (h.cell (World.block_lt_of_cell? w a hc)).trans hc
end Go.Proofs.Ytniojcnkjehflaa

/- Steps of a walk over known slots: what a frame's slots hold is kept as a list; each operation, branch and loop by one law. Conditions: none. -/
namespace Go.Proofs.Ytniojcnkjehflaa
open Go.RowKit

section
variable {P : Program} {n : Nat} {m : List (Nat × Value)} {a : Act} {w : World}

/-- What is known of a frame: its size, that nothing is deferred, what some of its slots hold. -/
structure Slots (n : Nat) (m : List (Nat × Value)) (a : Act) : Prop where
  size : a.tmps.size = n
  defers : a.defers = []
  look : ∀ t v, m.lookup t = some v → a.tmps.getD t undef = v

def ev (m : List (Nat × Value)) : Operand → Option Value
  | .tmp t => m.lookup t
  | .const v => some v
  | .global g => some (.pointer (some ⟨g, 0, none⟩))
  | .func f => some (.func (.func f) #[] #[])
theorem Slots.ev (h : Slots n m a) {x : Operand} {v : Value} (hx : ev m x = some v) : a.eval x = v := by
  cases x with
  | tmp t => exact h.look t v hx
  | const u => simpa [Go.Proofs.Ytniojcnkjehflaa.ev, Act.eval] using hx
  | global g => simpa [Go.Proofs.Ytniojcnkjehflaa.ev, Act.eval] using hx
  | func f => simpa [Go.Proofs.Ytniojcnkjehflaa.ev, Act.eval] using hx
def lk (m : List (Nat × Value)) (x : Operand) : Value := (ev m x).getD undef
def okOps (m : List (Nat × Value)) (o : Op) : Bool := o.operands.all fun x => (ev m x).isSome
theorem Slots.lk (h : Slots n m a) {x : Operand} (hx : (Go.Proofs.Ytniojcnkjehflaa.ev m x).isSome = true) : a.eval x = lk m x := by
  obtain ⟨v, hv⟩ := Option.isSome_iff_exists.1 hx
  rw [h.ev hv]; simp [Go.Proofs.Ytniojcnkjehflaa.lk, hv]
theorem Slots.put {d : Nat} {v : Value} (h : Slots n m a) (hd : d < n) : Slots n ((d, v) :: m) (a.put (some d) v) := by
  obtain ⟨h1, h2, h3⟩ := h
  refine ⟨by simp [Act.put, h1], h2, fun t u ht => ?_⟩
  rw [List.lookup_cons] at ht
  by_cases e : t = d
  · subst e
    simp at ht
    subst ht
    simp [Act.put, h1, hd]
  · have : (t == d) = false := by simpa using e
    rw [this] at ht
    have := h3 t u ht
    simp only [Act.put, Array.getD_eq_getD_getElem?] at this ⊢
    rw [Array.getElem?_setIfInBounds_ne (by omega)]
    exact this
/-- Less is known. -/
def Sub (m : List (Nat × Value)) : List (Nat × Value) → Prop
  | [] => True
  | p :: r => m.lookup p.1 = some p.2 ∧ Sub m r
theorem slot_eq {m : List (Nat × Value)} {t : Nat} {v v' : Value} (h : m.lookup t = some v) (e : v = v') : m.lookup (t, v').1 = some (t, v').2 := by subst e; exact h
theorem Sub.get {m : List (Nat × Value)} : ∀ {l : List (Nat × Value)}, Sub m l → ∀ t v, l.lookup t = some v → m.lookup t = some v
  | [], _, t, v, h => by simp at h
  | p :: r, hs, t, v, h => by
    rw [List.lookup_cons] at h
    by_cases e : t = p.1
    · subst e; simp at h; subst h; exact hs.1
    · have : (t == p.1) = false := by simpa using e
      rw [this] at h
      exact hs.2.get t v h
theorem Slots.sub {l : List (Nat × Value)} (h : Slots n m a) (hs : Sub m l) : Slots n l a := ⟨h.size, h.defers, fun t v ht => h.look t v (hs.get t v ht)⟩
theorem Slots.none {dst : Option Tmp} {v : Value} (h : Slots n m a) (hd : dst = none) : Slots n m (a.put dst v) := by subst hd; exact h

/-- Operation o, in a frame of which m is known and in world w: its value and the world behind it. -/
def Op1 (P : Program) (n : Nat) (m : List (Nat × Value)) (o : Oper) (w : World) (R : Value → World → Prop) : Prop :=
  ∀ a, Slots n m a → ∀ (N : Act → World → Prop) (Q : Exit → Act → World → Prop), (∀ v w', R v w' → N (a.put o.dst v) w') → o.wp P a w N Q

variable {o : Oper} {ops : Array Oper} {rest : List Oper} {Q : Exit → Act → World → Prop} {R : Value → World → Prop}
theorem op_run {v : Value} {w' : World} (hok : okOps m o.op = true) (hsel : (match o.op with | .select .. => true | _ => false) = false) (hrun : (execOp (lk m) o).run P w = .ok (.value v) w') : Op1 P n m o w (fun u x => u = v ∧ x = w') := by
  intro a ha N Q h
  have he : execOp a.eval o = execOp (lk m) o := execOp_congr o (fun cs b e => by simp [e] at hsel) (fun x hx => ha.lk (Array.all_eq_true_iff_forall_mem.1 hok x hx))
  unfold Oper.wp
  rw [he, hrun]
  exact h _ _ ⟨rfl, rfl⟩
theorem Op1.mono {R' : Value → World → Prop} (h : Op1 P n m o w R) (hr : ∀ v w', R v w' → R' v w') : Op1 P n m o w R' := fun a ha N Q hN => h a ha N Q fun v w' hv => hN v w' (hr v w' hv)
/-- A call of a Go function. -/
theorem op_call {c : Call} {x : Operand} {f : FuncId} {args : Array Value} {E : Ending → World → Prop} (ho : o.op = .call c) (hc : c.callee = .value x) (hf : ev m x = some (.func (.func f) #[] #[]))
    (hok : okOps m o.op = true) (hargs : c.args.map (lk m) = args) (hcall : (callFunc f args).run P w = .ok (.enter f args) w) (h : Calls P f args w E) (hE : ∀ e w', E e w' → ∃ v, e = .returned v ∧ R v w') : Op1 P n m o w R := by
  intro a ha N Q hN
  have he : execOp a.eval o = execOp (lk m) o := execOp_congr o (fun cs b e => by simp [e] at ho) (fun x hx => ha.lk (Array.all_eq_true_iff_forall_mem.1 hok x hx))
  unfold Oper.wp
  rw [he]
  have hfx : lk m x = .func (.func f) #[] #[] := by simp [lk, hf]
  have : (execOp (lk m) o).run P w = .ok (.enter f args) w := by
    simp only [execOp, ho, resolve, hc, hfx, Deferred.ofValue, hargs, Sem.run_bind, Sem.run_pure, Result.andThen_ok, invoke]
    simpa using hcall
  rw [this, Oper.upon_enter]
  refine h.mono fun e w' he => ?_
  obtain ⟨v, rfl, hv⟩ := hE e w' he
  exact hN v w' hv
theorem lk_ev {x : Operand} {v : Value} (hx : ev m x = some v) : lk m x = v := by simp [lk, hx]
/-- One cell is loaded. -/
theorem rn_load1 {t : TypeId} {x : Operand} {p : Addr} {v : Value} (ho : o.op = .load t x) (hx : ev m x = some (.pointer (some p))) (ht : ∀ w : World, (isAgg t).run P w = .ok false w) (hc : w.cell? p = some v) : (execOp (lk m) o).run P w = .ok (.value v) w := by
  unfold execOp
  have hl : (Instr.loadAt t (.pointer (some p))).run P w = .ok v w := by
    simp [Instr.loadAt, Instr.sureAddr, loadVar, ht, Sem.run_bind, load, Sem.run, hc]
  simp only [ho, lk_ev hx, Sem.run_bind, hl, Result.andThen_ok, Sem.run_pure]
/-- Several cells are loaded. -/
theorem rn_loadN {t : TypeId} {x : Operand} {b o' : Nat} {cs : List Value} {d : TypeDesc} (ho : o.op = .load t x) (hx : ev m x = some (.pointer (some ⟨b, o', none⟩))) (hu : P.underlying t = some d) (hd : d.isRow = true) (hi : (P.info? t).map (·.size) = some cs.length) (hc : w.rangeAt b o' cs) : (execOp (lk m) o).run P w = .ok (.value (.agg cs.toArray)) w := by
  unfold execOp
  simp only [ho, lk_ev hx, Instr.loadAt, Instr.sureAddr, Sem.run_bind, Sem.run_pure, Result.andThen_ok, run_loadVar_mid w b o' t cs d hc hu hd hi]
/-- An int's sum, difference, product that is in range. -/
theorem rn_arith {op : BinOp} {T T' : TypeId} {x y : Operand} {k : IntKind} {i j z : Int} (ho : o.op = .binOp op T x y T') (hx : ev m x = some (.int k i)) (hy : ev m y = some (.int k j)) (hop : Op.intArith op k i j = .pure (.int k (k.wrap z))) (hne : (op matches .shl | .shr | .eql | .neq) = false) (hcl : binOp op T (.int k i) (.int k j) = Op.intArith op k i j) (hz : k.wrap z = z) : (execOp (lk m) o).run P w = .ok (.value (.int k z)) w := by
  unfold execOp
  have hg : (eqGuard op T x y (.int k i) (.int k j)).run P w = .ok () w := by
    unfold eqGuard
    cases op <;> simp at hne <;> rfl
  simp only [ho, lk_ev hx, lk_ev hy, Sem.run_bind, hg, hcl, hop, hz, Result.andThen_ok]
  rfl

theorem rn_arith' {op : BinOp} {T T' : TypeId} {x y : Operand} {k : IntKind} {i j z z' : Int} (ho : o.op = .binOp op T x y T') (hx : ev m x = some (.int k i)) (hy : ev m y = some (.int k j)) (hop : Op.intArith op k i j = .pure (.int k (k.wrap z))) (hne : (op matches .shl | .shr | .eql | .neq) = false) (hcl : binOp op T (.int k i) (.int k j) = Op.intArith op k i j) (hz : k.wrap z = z) (he : z = z') : (execOp (lk m) o).run P w = .ok (.value (.int k z')) w := by
  subst he; exact rn_arith ho hx hy hop hne hcl hz
theorem rn_conv {S' T : TypeId} {x : Operand} {k k' : IntKind} {i : Int} {d : TypeDesc} (ho : o.op = .convert S' T x) (hx : ev m x = some (.int k' i)) (hS : P.underlying S' = some d) (ht : P.underlying T = some (.int k)) (hz : k.wrap i = i) : (execOp (lk m) o).run P w = .ok (.value (.int k i)) w := by
  unfold execOp
  simp only [ho, lk_ev hx, convert, Sem.run_bind, run_underlying hS, run_underlying ht, Result.andThen_ok]
  cases d <;> simp [Conv.intToInt, hz]
section minmax
variable {ts : Array TypeId} {x y : Operand} {k : IntKind} {i j : Int}
end minmax

/-! ### A plain region -/
theorem pl_nil (h : Q .normal a w) : wpList P ops Q [] a w := h
theorem getD_some {tmps : Array Value} {t : Nat} {b : Bool} (h : tmps.getD t undef = .bool b) : tmps[t]? = some (.bool b) := by
  rw [Array.getD_eq_getD_getElem?] at h
  cases hx : tmps[t]? with
  | none => rw [hx] at h; simp [undef] at h
  | some u => rw [hx] at h; simp at h; rw [h]
/-- Is a guarded operation wanted? -/
def wantB (m : List (Nat × Value)) (ops : Array Oper) (o : Oper) : Option Bool :=
  match o.guard with
  | none => some true
  | some (g, b) => match ((ops[g]?).bind (·.dst)).bind (m.lookup ·) with
    | some (.bool c) => some (c == b)
    | some (.tuple _) => some false
    | _ => none
theorem Slots.wants {c : Bool} (hs : Slots n m a) (h : wantB m ops o = some c) : Region.wanted o (yielded ops a.tmps) = c := by
  unfold wantB at h
  unfold Region.wanted
  cases hg : o.guard with
  | none => rw [hg] at h; simpa using h
  | some p =>
    obtain ⟨g, b⟩ := p
    rw [hg] at h
    simp only at h ⊢
    cases hd : (ops[g]?).bind (·.dst) with
    | none => rw [hd] at h; simp at h
    | some d =>
      rw [hd] at h
      simp only [Option.bind_some] at h
      cases hm : m.lookup d with
      | none => rw [hm] at h; simp at h
      | some u =>
        rw [hm] at h
        cases u <;> simp at h
        · rename_i q
          have := getD_some (hs.look d _ hm)
          simp [yielded, hd, this, h]
        · rename_i q
          subst h
          have h1 := hs.look d _ hm
          rw [Array.getD_eq_getD_getElem?] at h1
          have h2 : yielded ops a.tmps g = Option.none := by
            unfold yielded
            rw [hd]
            simp only [Option.bind_some]
            cases hx : a.tmps[d]? with
            | none => rfl
            | some u => rw [hx] at h1; simp at h1; subst h1; rfl
          rw [h2]; rfl
theorem pl_want {d : Nat} (hs : Slots n m a) (hg : wantB m ops o = some true) (hd : o.dst = some d) (hdn : Nat.blt d n = true) (h1 : Op1 P n m o w R)
    (h : ∀ v w' a', R v w' → Slots n ((d, v) :: m) a' → wpList P ops Q rest a' w') : wpList P ops Q (o :: rest) a w :=
  wpList_step fun K hK => by
    rw [if_pos (hs.wants hg)]
    exact h1 a hs K Q fun v w' hv => hK _ _ (h v w' _ hv (by rw [hd]; exact hs.put (by simpa using hdn)))
theorem pl_doW (hs : Slots n m a) (hg : wantB m ops o = some true) (hd : o.dst = none) (h1 : Op1 P n m o w R)
    (h : ∀ v w' a', R v w' → Slots n m a' → wpList P ops Q rest a' w') : wpList P ops Q (o :: rest) a w :=
  wpList_step fun K hK => by
    rw [if_pos (hs.wants hg)]
    exact h1 a hs K Q fun v w' hv => hK _ _ (h v w' _ hv (hs.none hd))
theorem pl_skip {d : Nat} (hs : Slots n m a) (hg : wantB m ops o = some false) (hd : o.dst = some d) (hdn : Nat.blt d n = true)
    (h : ∀ a', Slots n ((d, undef) :: m) a' → wpList P ops Q rest a' w) : wpList P ops Q (o :: rest) a w :=
  wpList_step fun K hK => by
    rw [if_neg (by simp [hs.wants hg])]
    exact hK _ _ (h _ (by rw [hd]; exact hs.put (by simpa using hdn)))

/-- An operation that leaves the world as it is. -/
theorem pl_val {d : Nat} {v : Value} (hs : Slots n m a) (hg : wantB m ops o = some true) (hd : o.dst = some d) (hdn : Nat.blt d n = true) (hok : okOps m o.op = true) (hsel : (match o.op with | .select .. => true | _ => false) = false) (hrun : (execOp (lk m) o).run P w = .ok (.value v) w)
    (h : ∀ a', Slots n ((d, v) :: m) a' → wpList P ops Q rest a' w) : wpList P ops Q (o :: rest) a w :=
  pl_want hs hg hd hdn (op_run hok hsel hrun) fun _ _ a' ⟨h1, h2⟩ hs' => by subst h1 h2; exact h a' hs'
/-! ### A region that draws its order -/
variable {md : Region.Mode} {S : World → Prop} {fuel : Nat} {listed : Array Bool} {i d : Nat}
abbrev NP (Q : Exit → Act → World → Prop) := NoPanic Q
theorem dr_start {id : Nat} {l : List Oper} (hm : P.follows .mixedOrders = true) (hS : S w.drew) (h : wpAnyH P .any l.toArray (NP Q) S l.length (Array.replicate l.length false) a w.drew) : (Code.region id l.toArray true).wp P Q a w :=
  wp_region_noPanic (wp_region_held_drew (S := S) hm hS fun _ => by simpa using h)
/-- Number i, which yields v in every world that meets S, is taken first. -/
theorem dr_take {v : Value} (hs : Slots n m a) (ho : ops[i]? = some o) (hsel : Region.noSelect ops = true) (hf : Region.free md ops listed i = true) (hr : (Region.ready md ops listed).contains i = true)
    (hw : wantB m ops o = some true) (hd : o.dst = some d) (hdn : Nat.blt d n = true) (hS : S w) (hok : okOps m o.op = true) (hrun : ∀ w, S w → (execOp (lk m) o).run P w = .ok (.value v) w)
    (h : ∀ a', Slots n ((d, v) :: m) a' → wpAnyH P md ops (NP Q) S fuel (listed.setIfInBounds i true) a' w) : wpAnyH P md ops (NP Q) S (fuel + 1) listed a w := by
  have he : execOp a.eval o = execOp (lk m) o := execOp_congr o (fun cs b e => Region.noSelect_spec hsel i o cs b ho e) (fun x hx => hs.lk (Array.all_eq_true_iff_forall_mem.1 hok x hx))
  refine wpAnyH_take ho hsel hf hr (fun _ _ _ h => h) (Or.inl ⟨hs.wants hw, fun w' hw' => by rw [he]; exact hrun w' hw'⟩) hS ?_
  exact h _ (by rw [hd]; exact hs.put (by simpa using hdn))
/-- Number i, which is not wanted. -/
theorem dr_skip (hs : Slots n m a) (ho : ops[i]? = some o) (hsel : Region.noSelect ops = true) (hf : Region.free md ops listed i = true) (hr : (Region.ready md ops listed).contains i = true)
    (hw : wantB m ops o = some false) (hd : o.dst = some d) (hdn : Nat.blt d n = true) (hS : S w)
    (h : ∀ a', Slots n ((d, undef) :: m) a' → wpAnyH P md ops (NP Q) S fuel (listed.setIfInBounds i true) a' w) : wpAnyH P md ops (NP Q) S (fuel + 1) listed a w := by
  refine wpAnyH_take ho hsel hf hr (fun _ _ _ h => h) (Or.inr ⟨hs.wants hw, rfl⟩) hS ?_
  exact h _ (by rw [hd]; exact hs.put (by simpa using hdn))
/-- Number i alone may come up. -/
theorem dr_one (hs : Slots n m a) (ho : ops[i]? = some o) (hr : Region.ready md ops listed = [i]) (hw : wantB m ops o = some true) (hd : o.dst = some d) (hdn : Nat.blt d n = true) (h1 : Op1 P n m o w R) (hS : ∀ v w', R v w' → S w')
    (h : ∀ v w' a', R v w' → Slots n ((d, v) :: m) a' → wpAnyH P md ops (NP Q) S fuel (listed.setIfInBounds i true) a' w') : wpAnyH P md ops (NP Q) S (fuel + 1) listed a w := by
  refine wpAnyH_all hr (by simp) fun j hj => ?_
  simp only [List.mem_singleton] at hj
  subst hj
  unfold wpOp
  simp only [ho, hs.wants hw, if_true]
  exact .inl (h1 a hs _ _ fun v w' hv => ⟨hS v w' hv, h v w' _ hv (by rw [hd]; exact hs.put (by simpa using hdn))⟩)
theorem dr_oneDo (hs : Slots n m a) (ho : ops[i]? = some o) (hr : Region.ready md ops listed = [i]) (hw : wantB m ops o = some true) (hd : o.dst = none) (h1 : Op1 P n m o w R) (hS : ∀ v w', R v w' → S w')
    (h : ∀ v w' a', R v w' → Slots n m a' → wpAnyH P md ops (NP Q) S fuel (listed.setIfInBounds i true) a' w') : wpAnyH P md ops (NP Q) S (fuel + 1) listed a w := by
  refine wpAnyH_all hr (by simp) fun j hj => ?_
  simp only [List.mem_singleton] at hj
  subst hj
  unfold wpOp
  simp only [ho, hs.wants hw, if_true]
  exact .inl (h1 a hs _ _ fun v w' hv => ⟨hS v w' hv, h v w' _ hv (hs.none hd)⟩)
theorem dr_done (hr : Region.ready md ops listed = []) (h : Q .normal a w) : wpAnyH P md ops (NP Q) S fuel listed a w := wpAnyH_done hr (NoPanic.normal h) fuel

/-! ### Code -/
theorem co_seq {x y : Code} (h : x.wp P (Exit.then (y.wp P Q) Q) a w) : (Code.seq x y).wp P Q a w := wp_seq h
theorem co_reg {id : Nat} {l : List Oper} (h : wpList P l.toArray Q l a w) : (Code.region id l.toArray false).wp P Q a w := wp_region_lit h
theorem co_then {K : Act → World → Prop} (h : K a w) : Exit.then K Q .normal a w := h
theorem co_true {c : Operand} {x y : Code} (hs : Slots n m a) (hc : ev m c = some (.bool true)) (h : x.wp P Q a w) : (Code.cond c x y).wp P Q a w := wp_cond_true (hs.ev hc) h
theorem co_false {c : Operand} {x y : Code} (hs : Slots n m a) (hc : ev m c = some (.bool false)) (h : y.wp P Q a w) : (Code.cond c x y).wp P Q a w := wp_cond_false (hs.ev hc) h
theorem co_loop {c : Code} (I : Nat → Act → World → Prop) (k : Nat) (h₀ : I k a w) (round : ∀ k a w, I k a w → c.wp P (Exit.then (fun a' w' => ∃ k', k' < k ∧ I k' a' w') Q) a w) : (Code.loop c).wp P Q a w := wp_loop_ghost I k h₀ round
theorem co_thenX {K : Act → World → Prop} {i : Nat} (h : Q (.exit i) a w) : Exit.then K Q (.exit i) a w := h
theorem co_thenR {K : Act → World → Prop} (h : Q .ret a w) : Exit.then K Q .ret a w := h
theorem co_blockN {i : Nat} (h : Q .normal a w) : Exit.inBlock i Q .normal a w := h
theorem co_blockX {i : Nat} (h : Q .normal a w) : Exit.inBlock i Q (.exit i) a w := by simpa [Exit.inBlock] using h
theorem co_blockR {i : Nat} (h : Q .ret a w) : Exit.inBlock i Q .ret a w := h
/-- The call begins. -/
theorem co_enter {f : FuncId} {fn : Func} {c : Code} {args : Array Value} {E : Ending → World → Prop} (hf : P.funcs[f]? = some fn) (hb : fn.body = some c) (hn : fn.ntmps = n) (hl : Nat.ble args.size n = true) (m : List (Nat × Value)) (hm : m = args.toList.zipIdx.map fun p => (p.2, p.1))
    (h : ∀ a, Slots n m a → c.wp P (bodyPost P fn E) a w) : Calls P f args w E := by
  have hl := Nat.le_of_ble_eq_true hl
  refine calls_of_wp hf hb (h _ ⟨by simp [hn]; omega, rfl, fun t v ht => ?_⟩)
  subst hm
  have hlk : ∀ (l : List Value) (k t : Nat) v, ((l.zipIdx k).map fun p => (p.2, p.1)).lookup t = some v → k ≤ t ∧ l[t - k]? = some v := by
    intro l
    induction l with
    | nil => intro k t v h; simp at h
    | cons x l ih =>
      intro k t v h
      rw [List.zipIdx_cons, List.map_cons, List.lookup_cons] at h
      by_cases e : t = k
      · subst e; simp at h; subst h; simp
      · have hb : (t == k) = false := by simpa using e
        rw [hb] at h
        obtain ⟨h1, h2⟩ := ih (k + 1) t v h
        refine ⟨by omega, ?_⟩
        rw [show t - k = (t - (k + 1)) + 1 by omega, List.getElem?_cons_succ]; exact h2
  obtain ⟨_, h2⟩ := hlk _ 0 t v ht
  simp only [Nat.sub_zero, Array.getElem?_toList] at h2
  rw [Array.getD_eq_getD_getElem?, Array.getElem?_append_left (Array.getElem?_eq_some_iff.1 h2).1, h2]; rfl
/-- The call ends. -/
theorem co_ret1 {fn : Func} {E : Ending → World → Prop} {t : Nat} {v : Value} (hs : Slots n m a) (hr : fn.results = #[.tmp t]) (ht : m.lookup t = some v) (h : E (.returned v) w) : bodyPost P fn E .ret a w := by
  have := hs.look t v ht
  exact bodyPost_ret (results_tmp hr a.tmps P w) hs.defers (by rw [this]; exact h)
theorem co_ret2 {fn : Func} {E : Ending → World → Prop} {t u : Nat} {v x : Value} (hs : Slots n m a) (hr : fn.results = #[.tmp t, .tmp u]) (ht : m.lookup t = some v) (hu : m.lookup u = some x) (h : E (.returned (.tuple #[v, x])) w) : bodyPost P fn E .ret a w := by
  have h1 := hs.look t v ht
  have h2 := hs.look u x hu
  exact bodyPost_ret (results_tmp2 hr a.tmps P w) hs.defers (by rw [h1, h2]; exact h)
theorem co_ret0 {fn : Func} {E : Ending → World → Prop} (hs : Slots n m a) (hr : fn.results = #[]) (h : E (.returned (.tuple #[])) w) : bodyPost P fn E .ret a w :=
  bodyPost_ret (results_none hr a.tmps P w) hs.defers h
theorem co_ret0n {fn : Func} {E : Ending → World → Prop} (hs : Slots n m a) (hr : fn.results = #[]) (h : E (.returned (.tuple #[])) w) : bodyPost P fn E .normal a w :=
  bodyPost_end (results_none hr a.tmps P w) hs.defers h
end
end Go.Proofs.Ytniojcnkjehflaa

/- Slices that are read, whatever their elements: their cells; a struct that is loaded out of one; an append from one. Conditions: none. -/
namespace Go.Proofs.Ytniojcnkjehflaa
open Go.RowKit

/-- The slice v reads as the list l: each element's cells are what enc says, sz of them. -/
def SliceOf {α : Type} (enc : α → List Value) (sz : Nat) (w : World) (v : Value) (l : List α) : Prop :=
  ∃ ao cap, v = .slice ao l.length cap ∧ l.length ≤ cap ∧ cap ≤ 9223372036854775807 ∧ (ao = none → l.length = 0 ∧ cap = 0) ∧
    ∀ j (h : j < l.length), ∃ b off, ao = some ⟨b, off, none⟩ ∧ w.rangeAt b (off + j * sz) (enc l[j])

theorem SliceOf.below {α : Type} {enc : α → List Value} {sz : Nat} {w w' : World} {v : Value} {l : List α} (h : SliceOf enc sz w v l) (hb : Below w.heap.size w w') : SliceOf enc sz w' v l := by
  obtain ⟨ao, cap, hv, h1, h2, h3, h4⟩ := h
  refine ⟨ao, cap, hv, h1, h2, h3, fun j hj => ?_⟩
  obtain ⟨b, off, e, hr⟩ := h4 j hj
  exact ⟨b, off, e, fun i u hu => cell_below hb (hr i u hu)⟩
theorem SliceOf.nil {α : Type} (enc : α → List Value) (sz : Nat) (w : World) : SliceOf enc sz w (.slice none 0 0) ([] : List α) :=
  ⟨none, 0, rfl, by simp, by omega, fun _ => ⟨rfl, rfl⟩, fun j hj => absurd hj (by simp)⟩
/-- The cells of rows of one size, one behind the other. -/
theorem flat_at {α : Type} {enc : α → List Value} {size : Nat} : ∀ (l : List α) (q r : Nat) (hql : q < l.length), (∀ y ∈ l, (enc y).length = size) → r < size → (l.flatMap enc)[q * size + r]? = (enc l[q])[r]?
  | [], q, r, hql, _, _ => absurd hql (by simp)
  | y :: l, 0, r, _, hy, hr => by
    rw [List.flatMap_cons, Nat.zero_mul, Nat.zero_add, List.getElem?_append_left (by rw [hy y (by simp)]; exact hr)]; rfl
  | y :: l, q + 1, r, hql, hy, hr => by
    rw [List.flatMap_cons, List.getElem?_append_right (by rw [hy y (by simp), Nat.add_mul]; omega), hy y (by simp), show (q + 1) * size + r - size = q * size + r by rw [Nat.add_mul]; omega]
    exact flat_at l q r (by simpa using hql) (fun z hz => hy z (by simp [hz])) hr
theorem flat_len {α : Type} {enc : α → List Value} {size : Nat} : ∀ (l : List α), (∀ y ∈ l, (enc y).length = size) → (l.flatMap enc).length = l.length * size
  | [], _ => by simp
  | y :: l, hy => by rw [List.flatMap_cons, List.length_append, hy y (by simp), flat_len l (fun z hz => hy z (by simp [hz])), List.length_cons, Nat.add_mul]; omega
/-- A row of the call's own. -/
theorem SliceOf.own {α : Type} {enc : α → List Value} {sz : Nat} {w : World} {B : Nat} {e : TypeId} {v : Value} {l : List α} (h : w.ownsRow B e sz v l.length (l.flatMap enc)) (hsz : ∀ x ∈ l, (enc x).length = sz) : SliceOf enc sz w v l := by
  rcases h.2 with ⟨hv, hn⟩ | ⟨g, cap, cur, hv, hg, _, hnc, hcm, _⟩
  · obtain rfl : l = [] := List.eq_nil_of_length_eq_zero hn
    rw [hv]; exact SliceOf.nil _ _ _
  · refine ⟨some ⟨g, 0, none⟩, cap, hv, hnc, by unfold maxLen at hcm; omega, fun h => by (cases h), fun j hj => ⟨g, 0, rfl, fun i u hu => ?_⟩⟩
    have hi : i < sz := by rw [← hsz _ (List.getElem_mem hj)]; exact (List.getElem?_eq_some_iff.1 hu).1
    have hlt : j * sz + i < l.length * sz := by
      have : (j + 1) * sz ≤ l.length * sz := Nat.mul_le_mul_right _ hj
      rw [Nat.add_mul] at this; omega
    have hc := h.cells (g := g) (by rw [hv]; rfl) (j * sz + i) u
    rw [Addr.add_lit] at hc
    rw [Nat.zero_add]; rw [Nat.zero_add] at hc
    exact hc (by rw [flat_at l j i hj hsz hi]; exact hu)

end Go.Proofs.Ytniojcnkjehflaa

/- Steps of a walk over known slots: blocks of the call's own, rows that grow, slices that came in. Conditions: none. -/
namespace Go.Proofs.Ytniojcnkjehflaa
open Go.RowKit

/-- Block N of world w holds just these cells, and may be written. -/
def Blk (w : World) (N : Nat) (T : TypeId) (cs : Array Value) : Prop := w.heap[N]? = some (.cells cs T (0, 0))
section
variable {P : Program} {n : Nat} {m : List (Nat × Value)} {w x : World} {o : Oper} {N : Nat} {T : TypeId} {cs : Array Value}
theorem Blk.lt (h : Blk w N T cs) : N < w.heap.size := (Array.getElem?_eq_some_iff.1 h).1
theorem Blk.cell (h : Blk w N T cs) {k : Nat} {v : Value} (hk : cs[k]? = some v) : w.cell? ⟨N, k, none⟩ = some v := by
  unfold World.cell?; rw [show w.heap[N]? = _ from h]; simpa using hk
theorem Blk.frozen (h : Blk w N T cs) (k : Nat) : w.frozen? ⟨N, k, none⟩ = false := by
  unfold World.frozen?; rw [show w.heap[N]? = _ from h]; simp
theorem Blk.range (h : Blk w N T cs) (k : Nat) (l : List Value) (hl : ∀ j v, l[j]? = some v → cs[k + j]? = some v) : w.rangeAt N k l := fun j v hv => h.cell (hl j v hv)
theorem Blk.all (h : Blk w N T cs) : w.rangeAt N 0 cs.toList := fun j v hv => h.cell (by simpa using hv)
theorem Blk.kept {row : Option Nat} (h : Blk w N T cs) (hg : w.grownBy x row) (hne : row ≠ some N) : Blk x N T cs := by
  unfold Blk at *; rw [hg.block N (Array.getElem?_eq_some_iff.1 h).1 (fun e => hne e.symm)]; exact h
theorem Blk.below (h : Blk w N T cs) (hb : Below w.heap.size w x) : Blk x N T cs := by
  unfold Blk at *; rw [hb.block N (Array.getElem?_eq_some_iff.1 h).1]; exact h
theorem below_grown (hb : Below w.heap.size w x) : w.grownBy x none := ⟨hb.os, hb.tape, hb.output, hb.size, fun k hk _ => hb.block k hk⟩
theorem hb_new {w0 : World} (h : Below w0.heap.size w0 w) (hg : w.grownBy x none) : Below w0.heap.size w0 x := h.grown hg h.size (fun _ e => by cases e)
theorem hb_at {w0 : World} (h : Below w0.heap.size w0 w) (hg : w.grownBy x (some N)) (hN : w0.heap.size ≤ N) : Below w0.heap.size w0 x := h.grown hg h.size (fun k e => by cases e; exact hN)
theorem hb_call {w0 : World} (h : Below w0.heap.size w0 w) (hb : Below w.heap.size w x) : Below w0.heap.size w0 x := h.trans (hb.mono h.size)
theorem hb_row {w0 : World} {B : Nat} {e : TypeId} {sz k : Nat} {v : Value} {xs : List Value} (h : Below w0.heap.size w0 w) (hr : w.ownsRow B e sz v k xs) (hB : w0.heap.size ≤ B) (hg : w.grownBy x v.ownBlock) : Below w0.heap.size w0 x :=
  h.grown hg h.size (fun k e => by have := (hr.lt k e).1; omega)

theorem row_kept_new {B : Nat} {e : TypeId} {sz k : Nat} {v : Value} {xs : List Value} (h : w.ownsRow B e sz v k xs) (hg : w.grownBy x none) : x.ownsRow B e sz v k xs :=
  h.kept hg (by cases v.ownBlock <;> simp)
theorem row_kept_at {B : Nat} {e : TypeId} {sz k : Nat} {v : Value} {xs : List Value} (h : w.ownsRow B e sz v k xs) (hg : w.grownBy x (some N)) (hne : v.ownBlock ≠ some N) : x.ownsRow B e sz v k xs := h.kept hg (.inr hne)
theorem row_ne_lt {B : Nat} {e : TypeId} {sz k : Nat} {v : Value} {xs : List Value} (h : w.ownsRow B e sz v k xs) (hN : N < B) : v.ownBlock ≠ some N := fun e => by have := (h.lt N e).1; omega
/-- Rows of two types lie apart. -/
theorem row_kept_row {B B' : Nat} {e e' : TypeId} {sz sz' k k' : Nat} {v v' : Value} {xs ys : List Value} (h : w.ownsRow B e sz v k xs) (h' : w.ownsRow B' e' sz' v' k' ys) (hg : w.grownBy x v'.ownBlock) (hne : e ≠ e') : x.ownsRow B e sz v k xs := by
  refine h.kept hg ?_
  cases hv : v.ownBlock with
  | none => exact .inl rfl
  | some g =>
    refine .inr fun e1 => ?_
    rcases h.2 with ⟨rfl, _⟩ | ⟨g1, _, _, rfl, _, hg1, _⟩
    · simp [Value.ownBlock] at hv
    · rcases h'.2 with ⟨rfl, _⟩ | ⟨g2, _, _, rfl, _, hg2, _⟩
      · simp [Value.ownBlock] at e1
      · simp [Value.ownBlock] at hv e1
        subst hv
        rw [← e1, hg1] at hg2
        simp at hg2
        exact hne hg2.2
theorem blk_part (h : Blk w N T cs) (k : Nat) {l : List Value} (hl : (cs.toList.drop k).take l.length = l) : w.rangeAt N k l := fun j v hv => by
  refine h.cell ?_
  have hj := (List.getElem?_eq_some_iff.1 hv).1
  rw [← hl, List.getElem?_take, if_pos hj, List.getElem?_drop] at hv
  simpa using hv
/-- A variable, a struct, an array that is made. -/
theorem op_new {v : Nat → Value} (hok : okOps m o.op = true) (hsel : (match o.op with | .select .. => true | _ => false) = false) (hrun : (execOp (lk m) o).run P w = .ok (.value (v w.heap.size)) (w.alloc (.cells cs T))) :
    Op1 P n m o w (fun u x => ∃ N, u = v N ∧ N = w.heap.size ∧ x.heap.size = N + 1 ∧ Blk x N T cs ∧ w.grownBy x none) :=
  (op_run hok hsel hrun).mono fun u x ⟨h1, h2⟩ => by
    subst h2
    exact ⟨w.heap.size, h1, rfl, by simp, heap_alloc_new w _, World.grownBy_alloc w _ none⟩
theorem setCell_blk (h : Blk w N T cs) (k : Nat) (v : Value) : Blk (w.setCell ⟨N, k, none⟩ v) N T (cs.setIfInBounds k v) := by
  have hlt := (Array.getElem?_eq_some_iff.1 h).1
  have hx := (Array.getElem?_eq_some_iff.1 h).2
  unfold Blk World.setCell
  simp only [Array.getElem?_modify, if_true]
  rw [show w.heap[N]? = _ from h]
  simp
theorem grown_setCell (w : World) (N k : Nat) (v : Value) : w.grownBy (w.setCell ⟨N, k, none⟩ v) (some N) := ⟨rfl, rfl, rfl, by simp [World.setCell], fun j _ hj => Below.heap_setCell w _ v j (fun e => hj (by rw [e]))⟩
/-- A store of one cell into a block of the call's own. -/
theorem op_store1 {t : TypeId} {p q : Operand} {k : Nat} {v : Value} (ho : o.op = .store t p q) (hp : ev m p = some (.pointer (some ⟨N, k, none⟩))) (hq : ev m q = some v) (h1 : v.oneCell' = true) (hs : ∀ w : World, (sizeOf t).run P w = .ok 1 w)
    (hb : Blk w N T cs) (hk : Nat.blt k cs.size = true) : Op1 P n m o w (fun _ x => Blk x N T (cs.setIfInBounds k v) ∧ x.heap.size = w.heap.size ∧ w.grownBy x (some N)) := by
  intro a ha K Q hN
  have hk' : k < cs.size := by simpa using hk
  have hc : w.cell? ⟨N, k, none⟩ = some cs[k] := hb.cell (by simp [hk'])
  have hcell : v.cells = #[v] := by cases v <;> simp_all [Value.cells, Value.oneCell']
  have hrun : (Instr.storeAt t (.pointer (some ⟨N, k, none⟩)) v).run P w = .ok () (w.setCell ⟨N, k, none⟩ v) := by
    have h2 := run_storeCells_cells (P := P) N k [v] 0 w (fun j hj => by simp at hj; subst hj; simp [hc]) (fun j hj => by simpa using hb.frozen _) (by simpa using h1)
    simp only [Nat.add_zero] at h2
    simp [Instr.storeAt, Instr.sureAddr, storeVar, hcell, hs, Sem.run_bind, h2, World.setCells]
  unfold Oper.wp execOp
  simp only [ho, ha.ev hp, ha.ev hq, Sem.run_bind, hrun, Result.andThen_ok, Sem.run_pure]
  exact hN _ _ ⟨setCell_blk hb k v, by simp [World.setCell], grown_setCell w N k v⟩
theorem setCells_blk : ∀ (vs : List Value) (w : World) (cs : Array Value) (k : Nat), Blk w N T cs → k + vs.length ≤ cs.size → Blk (w.setCells N k vs) N T (cs.toList.take k ++ vs ++ cs.toList.drop (k + vs.length)).toArray
  | [], w, cs, k, h, _ => by simpa [World.setCells] using h
  | v :: r, w, cs, k, h, hl => by
    simp only [List.length_cons] at hl
    have := setCells_blk r (w.setCell ⟨N, k, none⟩ v) (cs.setIfInBounds k v) (k + 1) (setCell_blk h k v) (by simp; omega)
    rw [World.setCells]
    have e : ((cs.setIfInBounds k v).toList.take (k + 1) ++ r ++ (cs.setIfInBounds k v).toList.drop (k + 1 + r.length)) = cs.toList.take k ++ (v :: r) ++ cs.toList.drop (k + (r.length + 1)) := by
      simp only [Array.toList_setIfInBounds]
      rw [List.take_set, List.drop_set_of_lt (by omega), show k + 1 + r.length = k + (r.length + 1) by omega]
      have : (List.take (k + 1) cs.toList).set k v = cs.toList.take k ++ [v] := by
        rw [List.take_succ_eq_append_getElem (by simp; omega)]
        have hl : (List.take k cs.toList).length = k := by simp; omega
        rw [List.set_append, hl, if_neg (by omega)]
        simp
      rw [this]; simp
    rw [List.length_cons, ← e]; exact this
/-- A store of a whole value into a block of the call's own. -/
theorem op_storeN {t : TypeId} {p q : Operand} {cells : Array Value} (ho : o.op = .store t p q) (hp : ev m p = some (.pointer (some ⟨N, 0, none⟩))) (hq : ev m q = some (.agg cells)) (h1 : cells.all (·.oneCell') = true) (hi : (P.info? t).map (·.size) = some cells.size)
    (hb : Blk w N T cs) (hk : cs.size = cells.size) : Op1 P n m o w (fun _ x => Blk x N T cells ∧ x.heap.size = w.heap.size ∧ w.grownBy x (some N)) := by
  intro a ha K Q hN
  have hthere : w.there N 0 cells.size := fun j hj => ⟨by rw [hb.cell (k := 0 + j) (v := cs[j]) (by simp [hk, hj])]; rfl, hb.frozen _⟩
  refine wp_store_mid t p q ho N 0 cells (ha.ev hp) (ha.ev hq) hthere hi h1 (hN _ _ ⟨?_, ?_, ?_⟩)
  · have := setCells_blk cells.toList w cs 0 hb (by simp [hk])
    have e : (cells.toList ++ List.drop cells.size cs.toList).toArray = cells := by rw [List.drop_eq_nil_of_le (by simp [hk])]; simp
    simp only [List.take_zero, List.nil_append, Nat.zero_add, Array.length_toList, e] at this
    exact this
  · have hsz : ∀ (vs : List Value) (k : Nat) (w : World), (w.setCells N k vs).heap.size = w.heap.size := by
      intro vs
      induction vs with
      | nil => intro k w; rfl
      | cons v r ih => intro k w; rw [World.setCells, ih]; simp [World.setCell]
    exact hsz _ _ _
  · have hg : ∀ (vs : List Value) (k : Nat) (w : World), w.grownBy (w.setCells N k vs) (some N) := by
      intro vs
      induction vs with
      | nil => intro k w; exact World.grownBy.refl _ _
      | cons v r ih => intro k w; rw [World.setCells]; exact (grown_setCell w N k v).trans (ih _ _)
    exact hg _ _ _
/-- 'append(v, news..)', v a row of the call's own. -/
theorem op_append {s q : Operand} {t : TypeId} (ho : o.op = .call { callee := .builtin .append, args := #[s, q], argTypes := #[t, t] })
    (base : Nat) (e : TypeId) {z : Value} {size bytes : Nat} (ht : P.underlying t = some (.slice e)) (hi : (P.info? e).map (fun i => (i.zero, i.size, i.bytes)) = some (some z, size, bytes))
    (hzs : z.cells.size = size) (hsz : Nat.blt 0 size = true) {v : Value} {k : Nat} {xs : List Value} (hs : ev m s = some v) (hown : w.ownsRow base e size v k xs)
    {M q' c : Nat} {ws : Array Value} {T' : TypeId} (hx : ev m q = some (.slice (some ⟨M, 0, none⟩) q' c)) (hb : Blk w M T' ws) (hl : ws.size = q' * size) (h1 : ws.all (·.oneCell') = true)
    (h63 : k + q' ≤ 9223372036854775807) (hbytes : (k + q') * bytes ≤ 140737488355328) (hbase : base ≤ w.heap.size) :
    Op1 P n m o w (fun u x => x.ownsRow base e size u (k + q') (xs ++ ws.toList) ∧ w.grownBy x v.ownBlock) := by
  intro a ha K Q hN
  obtain ⟨i0, hii, hz0, hz1, hz2⟩ := info_parts hi
  refine wp_append_own w s q t ho base e i0 z size bytes ht hii hz0 hz1 hz2 hzs (by simpa using hsz) v k xs (ha.ev hs) hown ⟨M, 0, none⟩ q' c ws.toList (ha.ev hx) (by simpa using hl) ?_ ?_ (by unfold maxLen; exact h63) hbytes hbase (fun v' w' h2 h3 _ => hN _ _ ⟨h2, h3⟩)
  · intro j u hu
    rw [Addr.add_lit, Nat.zero_add]
    exact hb.cell (by simpa using hu)
  · intro u hu
    exact (Array.all_eq_true_iff_forall_mem.1 h1) u (by simpa using hu)

/-! ### A region that draws its order begins -/
section
variable {Q : Exit → Act → World → Prop} {a : Act}
theorem drew_grown (w : World) : w.grownBy w.drew none := ⟨rfl, rfl, rfl, Nat.le_refl _, fun _ _ _ => rfl⟩
theorem dr_eq {id : Nat} {l : List Oper} (hm : P.follows .mixedOrders = true) (h : ∀ wd, w.grownBy wd none → wpAnyH P .any l.toArray (NP Q) (fun x => x = wd) l.length (Array.replicate l.length false) a wd) : (Code.region id l.toArray true).wp P Q a w :=
  dr_start (S := fun x => x = w.drew) hm rfl (h _ (drew_grown w))
theorem dr_gen {id : Nat} {l : List Oper} (S : World → Prop) (hm : P.follows .mixedOrders = true) (hS : ∀ wd, w.grownBy wd none → S wd) (h : ∀ wd, w.grownBy wd none → wpAnyH P .any l.toArray (NP Q) S l.length (Array.replicate l.length false) a wd) : (Code.region id l.toArray true).wp P Q a w :=
  dr_start hm (hS _ (drew_grown w)) (h _ (drew_grown w))
end

/-! ### Slices that came in: the value is whatever it is, its place is told by two functions -/
def blkOf : Value → Nat
  | .slice (some a) _ _ => a.block
  | _ => 0
def offOf : Value → Nat
  | .slice (some a) _ _ => a.off
  | _ => 0
variable {α : Type} {enc : α → List Value} {sz : Nat} {v : Value} {l : List α}
theorem sl_len (h : SliceOf enc sz w v l) : l.length ≤ 9223372036854775807 := by obtain ⟨_, _, _, h1, h2, _⟩ := h; omega
theorem sl_at (h : SliceOf enc sz w v l) {i : Nat} {y : α} (hy : l[i]? = some y) : w.rangeAt (blkOf v) (offOf v + i * sz) (enc y) := by
  obtain ⟨ao, cap, rfl, _, _, _, hc⟩ := h
  obtain ⟨hi, e⟩ := List.getElem?_eq_some_iff.1 hy
  obtain ⟨b, off, rfl, hr⟩ := hc i hi
  rw [← e]; exact hr
/-- 'len(v)' -/
theorem rn_len {t : TypeId} {q : Operand} (ho : o.op = .call { callee := .builtin .len, args := #[q], argTypes := #[t] }) (hq : ev m q = some v) {e : TypeId} (ht : P.underlying t = some (.slice e)) (h : SliceOf enc sz w v l) : (execOp (lk m) o).run P w = .ok (.value (.int .i64 (l.length : Nat))) w := by
  obtain ⟨ao, cap, rfl, _, _, _, hc⟩ := h
  unfold execOp
  simp [ho, resolve, invoke, builtin, Sem.run_bind, lk_ev hq, Builtin.len_, goInt, run_underlying ht]
theorem rn_lenOwn {t : TypeId} {q : Operand} {base : Nat} {e : TypeId} {k : Nat} {xs : List Value} (ho : o.op = .call { callee := .builtin .len, args := #[q], argTypes := #[t] }) (hq : ev m q = some v) {e' : TypeId} (ht : P.underlying t = some (.slice e')) (h : w.ownsRow base e sz v k xs) : (execOp (lk m) o).run P w = .ok (.value (.int .i64 (k : Nat))) w := by
  rcases h.2 with ⟨rfl, rfl⟩ | ⟨g, cap, cur, rfl, _⟩
  · unfold execOp
    simp [ho, resolve, invoke, builtin, Sem.run_bind, lk_ev hq, Builtin.len_, goInt, run_underlying ht]
  · unfold execOp
    simp [ho, resolve, invoke, builtin, Sem.run_bind, lk_ev hq, Builtin.len_, goInt, run_underlying ht]
/-- 'v[i]' as an address -/
theorem rn_index {t e : TypeId} {q r : Operand} {k : IntKind} {i : Int} {j : Nat} (ho : o.op = .indexAddr t q r) (hq : ev m q = some v) (hr : ev m r = some (.int k i)) (ht : P.underlying t = some (.slice e)) (hs : ∀ w : World, (sizeOf e).run P w = .ok sz w)
    (h : SliceOf enc sz w v l) (hij : i = (j : Nat)) (hj : j < l.length) : (execOp (lk m) o).run P w = .ok (.value (.pointer (some ⟨blkOf v, offOf v + j * sz, none⟩))) w := by
  subst hij
  obtain ⟨ao, cap, rfl, _, _, _, hc⟩ := h
  obtain ⟨b, off, rfl, _⟩ := hc j hj
  have hrun : (Instr.indexAt t (.slice (some ⟨b, off, none⟩) l.length cap) (.int k j)).run P w = .ok (.pointer (some ⟨b, off + j * sz, none⟩)) w := by
    have h0 : (0 : Int) ≤ (j : Nat) ∧ ((j : Nat) : Int) < (l.length : Nat) := by omega
    simp [Instr.indexAt, asIntOf, run_underlying ht, Sem.run_bind, h0, hs, hj, Addr.add_lit]
  unfold execOp
  simp only [ho, lk_ev hq, lk_ev hr, Sem.run_bind, hrun, Result.andThen_ok, Sem.run_pure]
  rfl
end
end Go.Proofs.Ytniojcnkjehflaa

/- Slices that are cut, and appended from. Conditions: none. -/
namespace Go.Proofs.Ytniojcnkjehflaa
open Go.RowKit Go.PlainAid

theorem SliceOf.sliced {α : Type} {enc : α → List Value} {sz : Nat} {w : World} {ao : Option Addr} {n cap : Nat} {l : List α} (h : SliceOf enc sz w (.slice ao n cap) l) (lo hi : Nat) (h1 : lo ≤ hi) (h2 : hi ≤ l.length) :
    SliceOf enc sz w (sliced ao lo hi cap sz) ((l.take hi).drop lo) := by
  obtain ⟨ao', cap', hv, h1', h2', h3, h4⟩ := h
  injection hv with e1 e2 e3
  subst e1 e2 e3
  have hl : ((l.take hi).drop lo).length = hi - lo := by rw [List.length_drop, List.length_take]; omega
  unfold Go.sliced
  cases ao with
  | none =>
    obtain ⟨e0, e1⟩ := h3 rfl
    subst e1
    have : hi = 0 := by omega
    have : lo = 0 := by omega
    subst lo hi
    exact ⟨none, 0, by simp, by simp, by omega, fun _ => ⟨by simp, rfl⟩, fun j hj => absurd hj (by simp)⟩
  | some a =>
    by_cases hc : cap = lo
    · subst hc
      have : hi = cap := by omega
      subst this
      refine ⟨some a, 0, by rw [hl]; simp, by rw [hl]; omega, by omega, fun h => (by cases h), fun j hj => absurd hj (by rw [hl]; omega)⟩
    · refine ⟨some (a.add (lo * sz)), cap - lo, by rw [hl, if_neg hc]; rfl, by rw [hl]; omega, by omega, fun h => (by cases h), fun j hj => ?_⟩
      rw [hl] at hj
      obtain ⟨b, off, e, hr⟩ := h4 (lo + j) (by omega)
      cases e
      refine ⟨b, off + lo * sz, by rw [Addr.add_lit], ?_⟩
      rw [show off + lo * sz + j * sz = off + (lo + j) * sz by rw [Nat.add_mul]; omega, List.getElem_drop, List.getElem_take]
      exact hr
theorem wp_append_src {P : Program} {w : World} {o : Oper} {a : Act} {K : Act → World → Prop} {Q : Exit → Act → World → Prop} (s x : Operand) (t : TypeId)
    (ho : o.op = .call { callee := .builtin .append, args := #[s, x], argTypes := #[t, t] })
    (base : Nat) (e : TypeId) (i : TypeInfo) (z : Value) (size bytes : Nat) (ht : P.underlying t = some (.slice e)) (hi : P.info? e = some i) (hz : i.zero = some z)
    (hsize : i.size = size) (hby : i.bytes = bytes) (hzs : z.cells.size = size) (hsz : 0 < size)
    (v : Value) (n : Nat) (xs : List Value) (hs : a.eval s = v) (hown : w.ownsRow base e size v n xs)
    {α : Type} (enc : α → List Value) (l : List α) (vs : Value) (hx : a.eval x = vs) (hsl : SliceOf enc size w vs l) (hen : ∀ y ∈ l, (enc y).length = size ∧ ∀ u ∈ enc y, u.oneCell' = true)
    (h63 : n + l.length ≤ maxLen) (hbytes : (n + l.length) * bytes ≤ 140737488355328) (hbase : base ≤ w.heap.size)
    (h : ∀ v' w', w'.ownsRow base e size v' (n + l.length) (xs ++ l.flatMap enc) → w.grownBy w' v.ownBlock → K (a.put o.dst v') w') : o.wp P a w K Q := by
  obtain ⟨ao, cap, rfl, _, _, hnil, hcell⟩ := hsl
  have hl := flat_len l (fun y hy => (hen y hy).1)
  cases ao with
  | none =>
    obtain ⟨e0, e1⟩ := hnil rfl
    obtain rfl : l = [] := List.eq_nil_of_length_eq_zero e0
    subst e1
    have hrun := run_append_owned_none (P := P) (w := w) base t o.type e i size ht hi v n xs hown
    have hx' : a.eval x = .slice none 0 0 := by simpa using hx
    unfold Oper.wp
    simp [execOp, ho, resolve, invoke, builtin, hs, hx', hrun, Result.andThen]
    exact h v w (by simpa using hown) (World.grownBy.refl _ _)
  | some ad =>
    refine wp_append_own _ s x t ho base e i z size bytes ht hi hz hsize hby hzs hsz v n xs hs hown ad l.length cap (l.flatMap enc) hx hl ?_ ?_ h63 hbytes hbase (fun v' w' h1 h2 _ => h v' w' h1 h2)
    · intro j u hu
      have hj : j < l.length * size := by rw [← hl]; exact (List.getElem?_eq_some_iff.1 hu).1
      have hq : j / size < l.length := Nat.div_lt_of_lt_mul (by rw [Nat.mul_comm]; exact hj)
      obtain ⟨b, off, hb, hr⟩ := hcell _ hq
      cases hb
      rw [Addr.add_lit]
      have hdm : j / size * size + j % size = j := by rw [Nat.mul_comm]; exact Nat.div_add_mod j size
      have hr' := hr (j % size) u
      rw [Nat.add_assoc, hdm] at hr'
      refine hr' ?_
      rw [← flat_at l (j / size) (j % size) hq (fun y hy => (hen y hy).1) (Nat.mod_lt _ hsz), hdm]; exact hu
    · intro u hu
      obtain ⟨y, hy, huy⟩ := List.mem_flatMap.1 hu
      exact (hen y hy).2 u huy
end Go.Proofs.Ytniojcnkjehflaa

/- Steps of a walk over known slots: slices cut, appended from, rows as lists, closures, structs compared. Conditions: none. -/
namespace Go.Proofs.Ytniojcnkjehflaa
open Go.RowKit

section
variable {P : Program} {n : Nat} {m : List (Nat × Value)} {w x : World} {o : Oper} {N : Nat} {T : TypeId} {cs : Array Value} {α : Type} {enc : α → List Value} {sz : Nat} {v : Value} {l : List α}

/-- A slice of a slice. -/
def subV (v : Value) (lo hi sz : Nat) : Value :=
  match v with
  | .slice ao _ cap => sliced ao lo hi cap sz
  | x => x
theorem sl_sub (h : SliceOf enc sz w v l) (lo hi : Nat) (h1 : lo ≤ hi) (h2 : hi ≤ l.length) : SliceOf enc sz w (subV v lo hi sz) ((l.take hi).drop lo) := by
  obtain ⟨ao, cap, rfl, h3, h4, h5, h6⟩ := h
  exact SliceOf.sliced ⟨ao, cap, rfl, h3, h4, h5, h6⟩ lo hi h1 h2
theorem sl_take (h : SliceOf enc sz w v l) (k : Nat) (h2 : k ≤ l.length) : SliceOf enc sz w (subV v 0 k sz) (l.take k) := sl_sub h 0 k (Nat.zero_le _) h2
theorem rn_sliceTo {t e : TypeId} {q r : Operand} {k : IntKind} {i : Int} {j : Nat} (ho : o.op = .slice t q none (some r) none) (hq : ev m q = some v) (hr : ev m r = some (.int k i)) (ht : P.underlying t = some (.slice e)) (hs : ∀ w : World, (sizeOf e).run P w = .ok sz w)
    (h : SliceOf enc sz w v l) (hij : i = (j : Nat)) (hj : j ≤ l.length) : (execOp (lk m) o).run P w = .ok (.value (subV v 0 j sz)) w := by
  subst hij
  obtain ⟨ao, cap, rfl, h3, h4, h5, h6⟩ := h
  have he : P.elem t = e := by simp [Program.elem, ht]
  have hrun : (Instr.slice t (.slice ao l.length cap) none (some (.int k j)) none).run P w = .ok (sliced ao 0 j cap sz) w := by
    rw [run_slice_h w t ao l.length cap (by rw [he]; exact ht) k j (by omega) (by omega), he, hs]; rfl
  unfold execOp
  simp only [ho, Option.map_some, Option.map_none, lk_ev hq, lk_ev hr, Instr.sliceAt, Sem.run_bind, run_underlying ht, Result.andThen_ok, hrun, Sem.run_pure]
  rfl
/-- 'append(v, src..)', v a row of the call's own, src any slice that is read. -/
theorem op_appendSrc {s q : Operand} {t : TypeId} (ho : o.op = .call { callee := .builtin .append, args := #[s, q], argTypes := #[t, t] })
    (base : Nat) (e : TypeId) {z : Value} {size bytes : Nat} (ht : P.underlying t = some (.slice e)) (hi : (P.info? e).map (fun i => (i.zero, i.size, i.bytes)) = some (some z, size, bytes))
    (hzs : z.cells.size = size) (hsz : Nat.blt 0 size = true) {u : Value} {k : Nat} {xs : List Value} (hs : ev m s = some u) (hown : w.ownsRow base e size u k xs)
    (hx : ev m q = some v) (hsl : SliceOf enc size w v l) (hen : ∀ y ∈ l, (enc y).length = size ∧ ∀ u ∈ enc y, u.oneCell' = true)
    (h63 : k + l.length ≤ 9223372036854775807) (hbytes : (k + l.length) * bytes ≤ 140737488355328) (hbase : base ≤ w.heap.size) :
    Op1 P n m o w (fun r x => x.ownsRow base e size r (k + l.length) (xs ++ l.flatMap enc) ∧ w.grownBy x u.ownBlock) := by
  intro a ha K Q hN
  obtain ⟨i0, hii, hz0, hz1, hz2⟩ := info_parts hi
  exact wp_append_src s q t ho base e i0 z size bytes ht hii hz0 hz1 hz2 hzs (by simpa using hsz) u k xs (ha.ev hs) hown enc l v (ha.ev hx) hsl hen (by unfold maxLen; exact h63) hbytes hbase (fun v' w' h2 h3 => hN _ _ ⟨h2, h3⟩)
theorem row_of_blk {base : Nat} (h : Blk w N T #[]) (hb : base ≤ N) (sz : Nat) : w.ownsRow base T sz (.slice (some ⟨N, 0, none⟩) 0 0) 0 [] :=
  ⟨by simp, .inr ⟨N, 0, #[], rfl, hb, h, Nat.le_refl _, by decide, by simp, by simp⟩⟩
theorem row_of_blkL {base : Nat} (h : Blk w N T #[]) (hb : base ≤ N) (sz : Nat) (enc : α → List Value) : w.ownsRow base T sz (.slice (some ⟨N, 0, none⟩) 0 0) ([] : List α).length (([] : List α).flatMap enc) := row_of_blk h hb sz
theorem row_nilL (w : World) (base : Nat) (T : TypeId) (sz : Nat) (enc : α → List Value) : w.ownsRow base T sz (.slice none 0 0) ([] : List α).length (([] : List α).flatMap enc) := World.ownsRow_nil _ _ _ _
theorem row_push {base : Nat} {u : Value} {y : α} {k : Nat} {xs : List Value} (h : w.ownsRow base T sz u (l.length + k) (l.flatMap enc ++ xs)) (hk : k = 1) (he : enc y = xs) : w.ownsRow base T sz u (l ++ [y]).length ((l ++ [y]).flatMap enc) := by
  subst hk he; simpa using h
theorem row_app {base : Nat} {u : Value} {l' : List α} (h : w.ownsRow base T sz u (l.length + l'.length) (l.flatMap enc ++ l'.flatMap enc)) : w.ownsRow base T sz u (l ++ l').length ((l ++ l').flatMap enc) := by
  simpa using h
theorem row_lows {base base' : Nat} {u : Value} {k : Nat} {xs : List Value} (h : w.ownsRow base T sz u k xs) (hb : base' ≤ base) : w.ownsRow base' T sz u k xs := by
  refine ⟨h.1, ?_⟩
  rcases h.2 with h2 | ⟨g, c, r, e, hg, h3⟩
  · exact .inl h2
  · exact .inr ⟨g, c, r, e, by omega, h3⟩
theorem row_eq {base : Nat} {u : Value} {l' : List α} (h : w.ownsRow base T sz u l.length (l.flatMap enc)) (e : l = l') : w.ownsRow base T sz u l'.length (l'.flatMap enc) := by subst e; exact h
theorem row_sl {base : Nat} (h : w.ownsRow base T sz v l.length (l.flatMap enc)) (hsz : ∀ y : α, (enc y).length = sz) : SliceOf enc sz w v l := SliceOf.own h (fun y _ => hsz y)
theorem row_fresh {base : Nat} {k : Nat} {xs : List Value} (h : w.ownsRow base T sz v k xs) (hN : N = w.heap.size) : v.ownBlock ≠ some N := fun e => by have := (h.lt N e).2; omega
/-- Structs compared. -/
theorem rn_eqS {T T' : TypeId} {q r : Operand} {a b : Array Value} {c : Bool} (ho : o.op = .binOp .eql T q r T') (hq : ev m q = some (.agg a)) (hr : ev m r = some (.agg b)) (hg : P.eqGuardType P.depth T = false) (h : (binOp .eql T (.agg a) (.agg b)).run P w = .ok (.bool c) w) : (execOp (lk m) o).run P w = .ok (.value (.bool c)) w := by
  unfold execOp
  have h0 : (eqGuard .eql T q r (.agg a) (.agg b)).run P w = .ok () w := by
    simp [eqGuard, Sem.run_bind, run_program, hg]
  simp only [ho, lk_ev hq, lk_ev hr, Sem.run_bind, h0, h, Result.andThen_ok, Sem.run_pure]
theorem rn_neS {T T' : TypeId} {q r : Operand} {a b : Array Value} {c : Bool} (ho : o.op = .binOp .neq T q r T') (hq : ev m q = some (.agg a)) (hr : ev m r = some (.agg b)) (hg : P.eqGuardType P.depth T = false) (h : (binOp .eql T (.agg a) (.agg b)).run P w = .ok (.bool c) w) : (execOp (lk m) o).run P w = .ok (.value (.bool !c)) w := by
  unfold execOp
  have h0 : (eqGuard .neq T q r (.agg a) (.agg b)).run P w = .ok () w := by
    simp [eqGuard, Sem.run_bind, run_program, hg]
  have h1 : (binOp .neq T (.agg a) (.agg b)).run P w = .ok (.bool !c) w := by
    have h2 : (Op.equal T (.agg a) (.agg b)).run P w = .ok c w := by
      cases h3 : (Op.equal T (.agg a) (.agg b)).run P w with
      | ok y w1 =>
        simp only [binOp, Sem.run_bind, h3, Result.andThen_ok, Sem.run_pure, Result.ok.injEq, Value.bool.injEq] at h
        rw [h.1, h.2]
      | halt y w1 => simp [binOp, Sem.run_bind, h3] at h
    simp only [binOp, Sem.run_bind, h2, Result.andThen_ok, Sem.run_pure]
  simp only [ho, lk_ev hq, lk_ev hr, Sem.run_bind, h0, h1, Result.andThen_ok, Sem.run_pure]
/-- A struct and a slot as results. -/
theorem co_retC1 {Q : Exit → Act → World → Prop} {a : Act} {fn : Func} {E : Ending → World → Prop} {t u : Nat} {T' : TypeId} {y : Value} {d : TypeDesc} (hs : Slots n m a) (hr : fn.results = #[.cell t T', .tmp u]) (ht : m.lookup t = some (.pointer (some ⟨N, 0, none⟩))) (hu : m.lookup u = some y) (hb : Blk w N T cs)
    (hd : P.underlying T' = some d) (hrow : d.isRow = true) (hi : (P.info? T').map (·.size) = some cs.size) (h : E (.returned (.tuple #[.agg cs, y])) w) : bodyPost P fn E .ret a w := by
  have h1 := hs.look t _ ht
  have h2 := hs.look u _ hu
  have hl := run_loadVar_mid w N 0 T' cs.toList d hb.all hd hrow (by simpa using hi)
  have hrun : (results fn a.tmps).run P w = .ok (.tuple #[.agg cs, y]) w := by
    have h1' : (a.tmps[t]?).getD undef = .pointer (some ⟨N, 0, none⟩) := by rw [← h1, Array.getD_eq_getD_getElem?]
    have h2' : (a.tmps[u]?).getD undef = y := by rw [← h2, Array.getD_eq_getD_getElem?]
    simp [results, hr, h1', h2', asAddr, hl, Sem.run_bind]
  exact bodyPost_ret hrun hs.defers h
/-- A struct as the result. -/
theorem co_retC {Q : Exit → Act → World → Prop} {a : Act} {fn : Func} {E : Ending → World → Prop} {t : Nat} {T' : TypeId} {d : TypeDesc} (hs : Slots n m a) (hr : fn.results = #[.cell t T']) (ht : m.lookup t = some (.pointer (some ⟨N, 0, none⟩))) (hb : Blk w N T cs)
    (hd : P.underlying T' = some d) (hrow : d.isRow = true) (hi : (P.info? T').map (·.size) = some cs.size) (h : E (.returned (.agg cs)) w) : bodyPost P fn E .ret a w := by
  have h1 := hs.look t _ ht
  have hl := run_loadVar_mid w N 0 T' cs.toList d hb.all hd hrow (by simpa using hi)
  have hrun : (results fn a.tmps).run P w = .ok (.agg cs) w := by
    have h1' : (a.tmps[t]?).getD undef = .pointer (some ⟨N, 0, none⟩) := by rw [← h1, Array.getD_eq_getD_getElem?]
    simp [results, hr, h1', asAddr, hl, Sem.run_bind]
  exact bodyPost_ret hrun hs.defers h
end
end Go.Proofs.Ytniojcnkjehflaa

/- Drawn regions in which several operations may come up: each way for itself. Conditions: none. -/
namespace Go.Proofs.Ytniojcnkjehflaa
open Go.RowKit

section
variable {P : Program} {n : Nat} {m : List (Nat × Value)} {w : World} {o : Oper} {ops : Array Oper} {Q : Exit → Act → World → Prop} {R : Value → World → Prop} {md : Region.Mode} {S : World → Prop} {fuel i d : Nat} {listed : Array Bool} {a : Act}
def AllW (P : Program) (md : Region.Mode) (ops : Array Oper) (Q : Exit → Act → World → Prop) (S : World → Prop) (fuel : Nat) (listed : Array Bool) (a : Act) (w : World) : List Nat → Prop
  | [] => True
  | i :: r => wpOp P ops (NP Q) i (fun a' w' => S w' ∧ wpAnyH P md ops (NP Q) S fuel (listed.setIfInBounds i true) a' w') a w ∧ AllW P md ops Q S fuel listed a w r
theorem AllW.all : ∀ (rs : List Nat), AllW P md ops Q S fuel listed a w rs → ∀ i ∈ rs, wpOp P ops (NP Q) i (fun a' w' => S w' ∧ wpAnyH P md ops (NP Q) S fuel (listed.setIfInBounds i true) a' w') a w
  | [], _, _, h => by cases h
  | i :: r, h, j, hj => by
    rcases List.mem_cons.1 hj with rfl | hj
    · exact h.1
    · exact AllW.all r h.2 j hj
/-- Several may come up. -/
theorem dr_many (rs : List Nat) (hr : Region.ready md ops listed = rs) (hne : rs ≠ []) (h : AllW P md ops Q S fuel listed a w rs) : wpAnyH P md ops (NP Q) S (fuel + 1) listed a w := wpAnyH_all hr hne (AllW.all rs h)
theorem dr_op (hs : Slots n m a) (ho : ops[i]? = some o) (hw : wantB m ops o = some true) (hd : o.dst = some d) (hdn : Nat.blt d n = true) (h1 : Op1 P n m o w R) (hS : ∀ v w', R v w' → S w')
    (h : ∀ v w' a', R v w' → Slots n ((d, v) :: m) a' → wpAnyH P md ops (NP Q) S fuel (listed.setIfInBounds i true) a' w') : wpOp P ops (NP Q) i (fun a' w' => S w' ∧ wpAnyH P md ops (NP Q) S fuel (listed.setIfInBounds i true) a' w') a w := by
  unfold wpOp
  simp only [ho, hs.wants hw, if_true]
  exact .inl (h1 a hs _ _ fun v w' hv => ⟨hS v w' hv, h v w' _ hv (by rw [hd]; exact hs.put (by simpa using hdn))⟩)
/-- One that yields v and leaves the world as it is. -/
theorem dr_opVal {v : Value} (hs : Slots n m a) (ho : ops[i]? = some o) (hw : wantB m ops o = some true) (hd : o.dst = some d) (hdn : Nat.blt d n = true) (hok : okOps m o.op = true) (hsel : (match o.op with | .select .. => true | _ => false) = false) (hrun : (execOp (lk m) o).run P w = .ok (.value v) w) (hS : S w)
    (h : ∀ a', Slots n ((d, v) :: m) a' → wpAnyH P md ops (NP Q) S fuel (listed.setIfInBounds i true) a' w) : wpOp P ops (NP Q) i (fun a' w' => S w' ∧ wpAnyH P md ops (NP Q) S fuel (listed.setIfInBounds i true) a' w') a w :=
  dr_op hs ho hw hd hdn (op_run hok hsel hrun) (fun _ _ ⟨_, h2⟩ => by subst h2; exact hS) (fun _ _ a' ⟨h1, h2⟩ hs' => by subst h1 h2; exact h a' hs')
end
theorem row_one {w : World} {B sz k : Nat} {T : TypeId} {v : Value} {xs : List Value} (h : w.ownsRow B T sz v k xs) : v.oneCell' = true := by
  rcases h.2 with ⟨rfl, _⟩ | ⟨g, cap, cur, rfl, _⟩ <;> rfl
theorem sl_one {α : Type} {enc : α → List Value} {sz : Nat} {w : World} {v : Value} {l : List α} (h : SliceOf enc sz w v l) : v.oneCell' = true := by
  obtain ⟨ao, cap, rfl, _⟩ := h; rfl
theorem all_nil : ([] : List Value).toArray.all (·.oneCell') = true := by simp
theorem all_cons {u : Value} {l : List Value} (h : u.oneCell' = true) (hl : l.toArray.all (·.oneCell') = true) : (u :: l).toArray.all (·.oneCell') = true := by
  simp only [List.all_toArray, List.all_cons, Bool.and_eq_true] at hl ⊢
  exact ⟨h, hl⟩
/-- A block of known cells, as a row of its own. -/
theorem row_of_cells {α : Type} {enc : α → List Value} {sz base N : Nat} {w : World} {T : TypeId} {cs : Array Value} (l : List α) (h : Blk w N T cs) (hb : base ≤ N) (hl : cs.toList = l.flatMap enc) (hs : cs.size = l.length * sz) (hm : l.length ≤ maxLen) :
    w.ownsRow base T sz (.slice (some ⟨N, 0, none⟩) l.length l.length) l.length (l.flatMap enc) := by
  have hcs : cs.toList.length = l.length * sz := by simpa using hs
  refine ⟨by rw [← hl, hcs], .inr ⟨N, l.length, cs, rfl, hb, h, Nat.le_refl _, hm, hs, ?_⟩⟩
  rw [← hl, List.take_of_length_le (by omega)]
/-- A pointer. -/
abbrev pt (b o : Nat) : Value := .pointer (some ⟨b, o, none⟩)
/-! ### Short forms: what follows by computing alone stands behind. -/
section
variable {P : Program} {n : Nat} {m : List (Nat × Value)} {w : World} {o : Oper} {ops : Array Oper} {rest : List Oper} {Q : Exit → Act → World → Prop} {R : Value → World → Prop} {md : Region.Mode} {S : World → Prop} {fuel d : Nat} {listed : Array Bool} {a : Act} {v : Value}
theorem pk (hs : Slots n m a) (hd : o.dst = some d) (hrun : (execOp (lk m) o).run P w = .ok (.value v) w) (h : ∀ a', Slots n ((d, v) :: m) a' → wpList P ops Q rest a' w)
    (hg : wantB m ops o = some true := by rfl) (hdn : Nat.blt d n = true := by rfl) (hok : okOps m o.op = true := by kernel_rfl) (hsel : (match o.op with | .select .. => true | _ => false) = false := by kernel_rfl) : wpList P ops Q (o :: rest) a w := pl_val hs hg hd hdn hok hsel hrun h
theorem pk0 (hs : Slots n m a) (hd : o.dst = some d) (h : ∀ a', Slots n ((d, v) :: m) a' → wpList P ops Q rest a' w)
    (hg : wantB m ops o = some true := by rfl) (hdn : Nat.blt d n = true := by rfl) (hok : okOps m o.op = true := by kernel_rfl) (hsel : (match o.op with | .select .. => true | _ => false) = false := by kernel_rfl) (hrun : (execOp (lk m) o).run P w = .ok (.value v) w := by kernel_rfl) : wpList P ops Q (o :: rest) a w := pl_val hs hg hd hdn hok hsel hrun h
theorem pw (hs : Slots n m a) (hd : o.dst = some d) (h1 : Op1 P n m o w R) (h : ∀ v w' a', R v w' → Slots n ((d, v) :: m) a' → wpList P ops Q rest a' w') (hg : wantB m ops o = some true := by rfl) (hdn : Nat.blt d n = true := by rfl) : wpList P ops Q (o :: rest) a w := pl_want hs hg hd hdn h1 h
theorem pwD (hs : Slots n m a) (hd : o.dst = none) (h1 : Op1 P n m o w R) (h : ∀ v w' a', R v w' → Slots n m a' → wpList P ops Q rest a' w') (hg : wantB m ops o = some true := by rfl) : wpList P ops Q (o :: rest) a w := pl_doW hs hg hd h1 h
theorem psk (hs : Slots n m a) (hd : o.dst = some d) (h : ∀ a', Slots n ((d, undef) :: m) a' → wpList P ops Q rest a' w) (hg : wantB m ops o = some false := by rfl) (hdn : Nat.blt d n = true := by rfl) : wpList P ops Q (o :: rest) a w := pl_skip hs hg hd hdn h
theorem dk (i : Nat) (hs : Slots n m a) (ho : ops[i]? = some o) (hd : o.dst = some d) (hS : S w) (hrun : ∀ w, S w → (execOp (lk m) o).run P w = .ok (.value v) w) (h : ∀ a', Slots n ((d, v) :: m) a' → wpAnyH P md ops (NP Q) S fuel (listed.setIfInBounds i true) a' w)
    (hsel : Region.noSelect ops = true := by kernel_rfl) (hf : Region.free md ops listed i = true := by kernel_rfl) (hr : (Region.ready md ops listed).contains i = true := by kernel_rfl) (hw : wantB m ops o = some true := by rfl) (hdn : Nat.blt d n = true := by rfl) (hok : okOps m o.op = true := by kernel_rfl) : wpAnyH P md ops (NP Q) S (fuel + 1) listed a w := dr_take hs ho hsel hf hr hw hd hdn hS hok hrun h
theorem dk0 (i : Nat) (hs : Slots n m a) (ho : ops[i]? = some o) (hd : o.dst = some d) (hS : S w) (h : ∀ a', Slots n ((d, v) :: m) a' → wpAnyH P md ops (NP Q) S fuel (listed.setIfInBounds i true) a' w)
    (hsel : Region.noSelect ops = true := by kernel_rfl) (hf : Region.free md ops listed i = true := by kernel_rfl) (hr : (Region.ready md ops listed).contains i = true := by kernel_rfl) (hw : wantB m ops o = some true := by rfl) (hdn : Nat.blt d n = true := by rfl) (hok : okOps m o.op = true := by kernel_rfl) (hrun : ∀ w, S w → (execOp (lk m) o).run P w = .ok (.value v) w := by intro _ _; kernel_rfl) : wpAnyH P md ops (NP Q) S (fuel + 1) listed a w := dr_take hs ho hsel hf hr hw hd hdn hS hok hrun h
theorem dsk (i : Nat) (hs : Slots n m a) (ho : ops[i]? = some o) (hd : o.dst = some d) (hS : S w) (h : ∀ a', Slots n ((d, undef) :: m) a' → wpAnyH P md ops (NP Q) S fuel (listed.setIfInBounds i true) a' w)
    (hsel : Region.noSelect ops = true := by kernel_rfl) (hf : Region.free md ops listed i = true := by kernel_rfl) (hr : (Region.ready md ops listed).contains i = true := by kernel_rfl) (hw : wantB m ops o = some false := by rfl) (hdn : Nat.blt d n = true := by rfl) : wpAnyH P md ops (NP Q) S (fuel + 1) listed a w := dr_skip hs ho hsel hf hr hw hd hdn hS h
theorem d1 (i : Nat) (hs : Slots n m a) (ho : ops[i]? = some o) (hd : o.dst = some d) (h1 : Op1 P n m o w R) (hS : ∀ v w', R v w' → S w') (h : ∀ v w' a', R v w' → Slots n ((d, v) :: m) a' → wpAnyH P md ops (NP Q) S fuel (listed.setIfInBounds i true) a' w')
    (hr : Region.ready md ops listed = [i] := by kernel_rfl) (hw : wantB m ops o = some true := by rfl) (hdn : Nat.blt d n = true := by rfl) : wpAnyH P md ops (NP Q) S (fuel + 1) listed a w := dr_one hs ho hr hw hd hdn h1 hS h
theorem d1D (i : Nat) (hs : Slots n m a) (ho : ops[i]? = some o) (hd : o.dst = none) (h1 : Op1 P n m o w R) (hS : ∀ v w', R v w' → S w') (h : ∀ v w' a', R v w' → Slots n m a' → wpAnyH P md ops (NP Q) S fuel (listed.setIfInBounds i true) a' w')
    (hr : Region.ready md ops listed = [i] := by kernel_rfl) (hw : wantB m ops o = some true := by rfl) : wpAnyH P md ops (NP Q) S (fuel + 1) listed a w := dr_oneDo hs ho hr hw hd h1 hS h
end
end Go.Proofs.Ytniojcnkjehflaa

/- Steps of a walk over known slots: rows and blocks of other types lie apart; three results, the first one a struct in a cell. Conditions: none. -/
namespace Go.Proofs.Ytniojcnkjehflaa
open Go.RowKit
section
variable {P : Program} {n : Nat} {m : List (Nat × Value)} {w x : World} {N : Nat} {T : TypeId} {cs : Array Value}
theorem own_neT {B sz k : Nat} {e : TypeId} {v : Value} {xs : List Value} (h : w.ownsRow B e sz v k xs) (hb : Blk w N T cs) (hT : e ≠ T) : v.ownBlock ≠ some N := fun e1 => by
  rcases h.2 with ⟨rfl, _⟩ | ⟨g, c, cur, rfl, hg, hh, _⟩
  · simp [Value.ownBlock] at e1
  · simp only [Value.ownBlock, Option.some.injEq] at e1
    subst e1
    have := hh.symm.trans hb
    simp only [Option.some.injEq, Obj.cells.injEq] at this
    exact hT this.2.1
end
end Go.Proofs.Ytniojcnkjehflaa

/- Maps that the call makes: a list of keys and values; lookups, stores, deletes, lengths. Conditions: none. -/
namespace Go.Proofs.Ytniojcnkjehflaa
open Go.RowKit

section
variable {K : Type} [DecidableEq K]
/-- The place and the value of a key. -/
def lookK (a : K) : List (K × Value) → Nat → Option (Nat × Value)
  | [], _ => none
  | p :: r, i => if a = p.1 then some (i, p.2) else lookK a r (i + 1)
def getK (l : List (K × Value)) (a : K) : Option Value := (lookK a l 0).map (·.2)
def putK (l : List (K × Value)) (a : K) (v : Value) : List (K × Value) :=
  match lookK a l 0 with
  | some (i, _) => l.modify i fun p => (p.1, v)
  | none => l ++ [(a, v)]
theorem lookK_shift (a : K) : ∀ (l : List (K × Value)) (i j : Nat), lookK a l (i + j) = (lookK a l j).map fun p => (i + p.1, p.2)
  | [], _, _ => rfl
  | p :: r, i, j => by
    unfold lookK
    split
    · rfl
    · rw [Nat.add_assoc]; exact lookK_shift a r i (j + 1)
theorem lookK_some {a : K} : ∀ {l : List (K × Value)} {i : Nat} {v : Value}, lookK a l 0 = some (i, v) → l[i]? = some (a, v)
  | [], i, v, h => by simp [lookK] at h
  | p :: r, i, v, h => by
    unfold lookK at h
    split at h
    · rename_i e
      simp only [Option.some.injEq, Prod.mk.injEq] at h
      obtain ⟨rfl, rfl⟩ := h
      subst e; rfl
    · rw [show (0 : Nat) + 1 = 1 + 0 from rfl, lookK_shift] at h
      cases hr : lookK a r 0 with
      | none => rw [hr] at h; simp at h
      | some q =>
        obtain ⟨k, u⟩ := q
        rw [hr] at h
        simp only [Option.map_some, Option.some.injEq, Prod.mk.injEq] at h
        obtain ⟨rfl, rfl⟩ := h
        rw [Nat.add_comm, List.getElem?_cons_succ]
        exact lookK_some hr
theorem lookK_none {a : K} : ∀ {l : List (K × Value)}, lookK a l 0 = none → ∀ p ∈ l, p.1 ≠ a
  | [], _, p, hp => by simp at hp
  | q :: r, h, p, hp => by
    unfold lookK at h
    split at h
    · simp at h
    · rename_i e
      rw [show (0 : Nat) + 1 = 1 + 0 from rfl, lookK_shift] at h
      have hr : lookK a r 0 = none := by cases hr : lookK a r 0 <;> simp_all
      rcases List.mem_cons.1 hp with rfl | hp
      · exact fun e' => e e'.symm
      · exact lookK_none hr p hp
theorem getK_cons (p : K × Value) (l : List (K × Value)) (b : K) : getK (p :: l) b = if b = p.1 then some p.2 else getK l b := by
  simp only [getK, lookK]
  split
  · rfl
  · rw [show (0 : Nat) + 1 = 1 + 0 from rfl, lookK_shift]; cases lookK b l 0 <;> rfl
@[simp] theorem getK_nil (b : K) : getK ([] : List (K × Value)) b = none := rfl
theorem getK_append (l r : List (K × Value)) (b : K) : getK (l ++ r) b = (getK l b).or (getK r b) := by
  induction l with
  | nil => simp
  | cons p l ih => rw [List.cons_append, getK_cons, getK_cons, ih]; split <;> simp
theorem getK_none {l : List (K × Value)} {b : K} (h : ∀ p ∈ l, p.1 ≠ b) : getK l b = none := by
  induction l with
  | nil => rfl
  | cons p l ih => rw [getK_cons, if_neg (fun e => h p (by simp) e.symm), ih (fun q hq => h q (by simp [hq]))]
theorem getK_modify : ∀ (l : List (K × Value)) (i : Nat) (a : K) (u v : Value) (b : K), l[i]? = some (a, u) → (∀ j, j < i → ∀ p, l[j]? = some p → p.1 ≠ a) → getK (l.modify i fun p => (p.1, v)) b = if b = a then some v else getK l b
  | [], i, a, u, v, b, h, _ => by simp at h
  | p :: r, 0, a, u, v, b, h, _ => by
    simp at h; subst h
    rw [List.modify_zero_cons, getK_cons, getK_cons]
    split <;> simp_all
  | p :: r, i + 1, a, u, v, b, h, hn => by
    rw [List.modify_succ_cons, getK_cons, getK_cons, getK_modify r i a u v b (by simpa using h) (fun j hj q hq => hn (j + 1) (by omega) q (by simpa using hq))]
    have hp : p.1 ≠ a := hn 0 (by omega) p rfl
    by_cases e : b = p.1
    · subst e; simp [hp]
    · simp [e]
theorem lookK_first {a : K} : ∀ {l : List (K × Value)} {i : Nat} {v : Value}, lookK a l 0 = some (i, v) → ∀ j, j < i → ∀ p, l[j]? = some p → p.1 ≠ a
  | [], i, v, h => by simp [lookK] at h
  | q :: r, i, v, h => by
    intro j hj p hp
    unfold lookK at h
    split at h
    · simp at h; omega
    · rename_i e
      rw [show (0 : Nat) + 1 = 1 + 0 from rfl, lookK_shift] at h
      cases hr : lookK a r 0 with
      | none => rw [hr] at h; simp at h
      | some x =>
        obtain ⟨k, u⟩ := x
        rw [hr] at h
        simp only [Option.map_some, Option.some.injEq, Prod.mk.injEq] at h
        cases j with
        | zero => simp at hp; subst hp; exact fun e' => e e'.symm
        | succ j => exact lookK_first hr j (by omega) p (by simpa using hp)
theorem getK_put (l : List (K × Value)) (a : K) (v : Value) (b : K) : getK (putK l a v) b = if b = a then some v else getK l b := by
  unfold putK
  cases h : lookK a l 0 with
  | none =>
    simp only []
    rw [getK_append]
    by_cases e : b = a
    · subst e; rw [getK_none (lookK_none h)]; simp [getK_cons]
    · simp [getK_cons, e]
  | some x =>
    obtain ⟨i, u⟩ := x
    exact getK_modify l i a u v b (lookK_some h) (lookK_first h)
theorem putK_keys (l : List (K × Value)) (a : K) (v : Value) (h : (l.map (·.1)).Nodup) : ((putK l a v).map (·.1)).Nodup := by
  unfold putK
  cases h1 : lookK a l 0 with
  | none =>
    simp only [List.map_append, List.map_cons, List.map_nil]
    rw [List.nodup_append]
    refine ⟨h, by simp, ?_⟩
    intro x hx y hy
    obtain ⟨p, hp, rfl⟩ := List.mem_map.1 hx
    simp at hy; subst hy
    exact lookK_none h1 p hp
  | some x =>
    obtain ⟨i, u⟩ := x
    have : (l.modify i fun p => (p.1, v)).map (·.1) = l.map (·.1) := by
      apply List.ext_getElem?
      intro j
      simp only [List.getElem?_map, List.getElem?_modify]
      cases l[j]? <;> simp
      split <;> rfl
    simp only []
    rw [this]; exact h
end

section
variable {K : Type}
variable {P : Program} {n : Nat} {m : List (Nat × Value)} {w x : World} {o : Oper} {B : Nat} {l : List (K × Value)} {kv : K → Value} {kt e t : TypeId} {q r : Operand} {a : K}
/-- Block B is a map that holds just these entries. -/
def MapB (kv : K → Value) (w : World) (B : Nat) (l : List (K × Value)) : Prop :=
  ∃ es clock, w.heap[B]? = some (.map es clock) ∧ es.toList.map (fun e => (e.key, e.val)) = l.map (fun p => (kv p.1, p.2)) ∧ (l.map (·.1)).Nodup ∧ (es.toList.map (·.born)).Nodup ∧ ∀ e ∈ es.toList, e.born < clock
theorem MapB.lt (h : MapB kv w B l) : B < w.heap.size := by obtain ⟨_, _, h, _⟩ := h; exact (Array.getElem?_eq_some_iff.1 h).1
theorem MapB.keys (h : MapB kv w B l) : (l.map (·.1)).Nodup := by obtain ⟨_, _, _, _, h, _⟩ := h; exact h
theorem MapB.kept {row : Option Nat} (h : MapB kv w B l) (hg : w.grownBy x row) (hne : row ≠ some B) : MapB kv x B l := by
  obtain ⟨es, c, h1, h2⟩ := h
  exact ⟨es, c, by rw [hg.block B (Array.getElem?_eq_some_iff.1 h1).1 (fun e => hne e.symm)]; exact h1, h2⟩
theorem MapB.below (h : MapB kv w B l) (hb : Below w.heap.size w x) : MapB kv x B l := h.kept (below_grown hb) (by simp)
theorem op_makeMap (kv : K → Value) (hrun : (execOp (lk m) o).run P w = .ok (.value (.map (some w.heap.size))) (w.alloc (.map #[] 0))) (hok : okOps m o.op = true) (hsel : (match o.op with | .select .. => true | _ => false) = false) :
    Op1 P n m o w (fun u x => ∃ N, u = .map (some N) ∧ N = w.heap.size ∧ x.heap.size = N + 1 ∧ MapB kv x N [] ∧ w.grownBy x none) :=
  (op_run hok hsel hrun).mono fun u x ⟨h1, h2⟩ => by
    subst h2
    exact ⟨w.heap.size, h1, rfl, by simp, ⟨#[], 0, heap_alloc_new w _, by simp, by simp, by simp, by simp⟩, World.grownBy_alloc w _ none⟩
theorem rn_lenMap {ts : Array TypeId} (ho : o.op = .call { callee := .builtin .len, args := #[q], argTypes := #[t] }) (hq : ev m q = some (.map (some B))) (ht : P.underlying t = some (.map kt e)) (h : MapB kv w B l) : (execOp (lk m) o).run P w = .ok (.value (.int .i64 (l.length : Nat))) w := by
  obtain ⟨es, cl, h1, h2, _⟩ := h
  have hl : es.size = l.length := by have := congrArg List.length h2; simpa using this
  have hg : (getObj B).run P w = .ok (.map es cl) w := by simp [getObj, Sem.run, h1]
  unfold execOp
  simp [ho, resolve, invoke, builtin, Sem.run_bind, lk_ev hq, Builtin.len_, goInt, run_underlying ht, hg, hl]
theorem setObj_grown (w : World) (B : Nat) (ob : Obj) : w.grownBy { w with heap := w.heap.setIfInBounds B ob } (some B) :=
  ⟨rfl, rfl, rfl, by simp, fun k _ hk => by simp [Array.getElem?_setIfInBounds_ne (show B ≠ k from fun e => hk (by rw [e]))]⟩

end

section
variable {K : Type} [DecidableEq K]
/-- How keys of a kind lie in memory, are found, stay. -/
structure KL (P : Program) (kt : TypeId) (kv : K → Value) : Prop where
  chk : ∀ (w : World) (em : Bool) (a : K), (Instr.checkKey em 10000 kt (kv a)).run P w = .ok () w
  fnd : ∀ (w : World) (a : K) (es : List MapEntry) (l : List (K × Value)), es.map (fun e => (e.key, e.val)) = l.map (fun p => (kv p.1, p.2)) → (Instr.findKey kt (kv a) es).run P w = .ok (lookK a l 0) w
  bits : ∀ a : K, Instr.sameBits 10000 (kv a) (kv a) = true

variable {P : Program} {n : Nat} {m : List (Nat × Value)} {w x : World} {o : Oper} {B : Nat} {l : List (K × Value)} {kv : K → Value} {kt e t : TypeId} {q r : Operand} {a : K}
theorem run_look (KK : KL P kt kv) (ht : P.underlying t = some (.map kt e)) {z : Value} (hz : ∀ w : World, (zeroValue e).run P w = .ok z w) (h : MapB kv w B l) (c : Bool) :
    (Instr.lookup t (.map (some B)) (kv a) c).run P w = .ok (if c then .tuple #[(getK l a).getD z, .bool (getK l a).isSome] else (getK l a).getD z) w := by
  obtain ⟨es, cl, h1, h2, _⟩ := h
  have hg : (getObj B).run P w = .ok (.map es cl) w := by simp [getObj, Sem.run, h1]
  have hf := KK.fnd w a es.toList l h2
  simp only [Instr.lookup, Sem.run_bind, run_underlying ht, Result.andThen_ok, hg, Sem.run_pure, KK.chk, hf]
  unfold getK
  cases lookK a l 0 with
  | none => simp [hz]
  | some p => simp
theorem rn_look (KK : KL P kt kv) (ho : o.op = .lookup t q r false) (hq : ev m q = some (.map (some B))) (hr : ev m r = some (kv a)) (ht : P.underlying t = some (.map kt e)) {z : Value} (hz : ∀ w : World, (zeroValue e).run P w = .ok z w) (h : MapB kv w B l) :
    (execOp (lk m) o).run P w = .ok (.value ((getK l a).getD z)) w := by
  have := run_look (a := a) KK ht hz h false
  unfold execOp
  simp only [ho, lk_ev hq, lk_ev hr, Sem.run_bind, this, Result.andThen_ok, Sem.run_pure]
  rfl
end
end Go.Proofs.Ytniojcnkjehflaa

/- Keys of maps: ints, texts, and structs or arrays that are compared part by part. Conditions: none. -/
namespace Go.Proofs.Ytniojcnkjehflaa
open Go.RowKit

theorem findAsking_keys {P : Program} {kt : TypeId} {K : Type} [DecidableEq K] {kv : K → Value} (h : ∀ a b (w : World), (Op.equal kt (kv a) (kv b)).run P w = .ok (decide (a = b)) w) (a : K) (w : World) : ∀ (es : List MapEntry) (l : List (K × Value)) (i : Nat), es.map (fun e => (e.key, e.val)) = l.map (fun p => (kv p.1, p.2)) → (Instr.findAsking kt (kv a) es i).run P w = .ok (lookK a l i) w
  | [], [], _, _ => rfl
  | [], p :: r, _, h => by simp at h
  | e :: es, [], _, h => by simp at h
  | e :: es, p :: r, i, he => by
    simp only [List.map_cons, List.cons.injEq, Prod.mk.injEq] at he
    obtain ⟨⟨h1, h2⟩, h3⟩ := he
    unfold Instr.findAsking lookK
    simp only [Sem.run_bind, h1, h a p.1 w, Result.andThen_ok]
    by_cases e1 : a = p.1
    · simp [e1, h2]
    · simp only [e1, decide_false, if_false]
      exact findAsking_keys h a w es r (i + 1) h3
theorem aggKL {P : Program} {kt : TypeId} {K : Type} [DecidableEq K] {kv : K → Value} {d : TypeDesc} (ht : P.underlying kt = some d) (h : ∀ a b, Instr.sameNow d (kv a) (kv b) = none) (hq : ∀ a b (w : World), (Op.equal kt (kv a) (kv b)).run P w = .ok (decide (a = b)) w) (hc : ∀ (w : World) em a, (Instr.checkKey em 10000 kt (kv a)).run P w = .ok () w) (hb : ∀ a, Instr.sameBits 10000 (kv a) (kv a) = true) : KL P kt kv where
  chk := hc
  fnd w a es l hl := by
    cases es with
    | nil =>
      cases l with
      | nil => simp only [Instr.findKey, Sem.run_bind, run_underlying ht, Result.andThen_ok, Instr.findNow, Sem.run_pure]; rfl
      | cons p r => simp at hl
    | cons e es =>
      cases l with
      | nil => simp at hl
      | cons p r =>
        have h0 := hl
        simp only [List.map_cons, List.cons.injEq, Prod.mk.injEq] at hl
        have hn : Instr.findNow d (kv a) (e :: es) 0 = none := by unfold Instr.findNow; rw [hl.1.1, h a p.1]
        simp only [Instr.findKey, Sem.run_bind, run_underlying ht, Result.andThen_ok, hn]
        exact findAsking_keys hq a w (e :: es) (p :: r) 0 h0
  bits := hb
def intK (n : Int) : Value := .int .i64 n
def strK (s : ByteArray) : Value := .string s
def arr2K (p : Int × Int) : Value := .agg #[.int .i64 p.1, .int .i64 p.2]
theorem arr2KL {P : Program} {kt E : TypeId} (ht : P.underlying kt = some (.array 2 E)) (hE : P.underlying E = some (.int .i64)) (hs : ∀ w : World, (sizeOf E).run P w = .ok 1 w) (hg : ∀ w : World, (isAgg E).run P w = .ok false w) : KL P kt arr2K := by
  have hp : ∀ (w : World) (a b : Int) (i : Nat), i < 2 → (part E #[.int .i64 a, .int .i64 b] (i * 1)).run P w = .ok (.int .i64 (if i = 0 then a else b)) w := by
    intro w a b i hi
    match i, hi with
    | 0, _ => simp [part, Sem.run_bind, hg, hs]
    | 1, _ => simp [part, Sem.run_bind, hg, hs]
  have q2 : ∀ (d : Nat) (a b : Int × Int) (w : World), (Op.equalIn (d + 1 + 1) kt (arr2K a) (arr2K b)).run P w = .ok (decide (a = b)) w := by
    intro d a b w
    have e1 : ∀ (w : World) (x y : Int), (Op.equalIn (d + 1) E (.int .i64 x) (.int .i64 y)).run P w = .ok (x == y) w := fun w x y => by
      simp [Op.equalIn, Sem.run_bind, run_underlying hE]
    have h00 := fun w => hp w a.1 a.2 0 (by omega); have h01 := fun w => hp w a.1 a.2 1 (by omega)
    have h10 := fun w => hp w b.1 b.2 0 (by omega); have h11 := fun w => hp w b.1 b.2 1 (by omega)
    simp only [Nat.zero_mul, Nat.one_mul, if_true, Nat.one_ne_zero, if_false] at h00 h01 h10 h11
    obtain ⟨a1, a2⟩ := a
    obtain ⟨b1, b2⟩ := b
    rw [Op.equalIn]
    simp only [Sem.run_bind, run_underlying ht, Result.andThen_ok, arr2K, hs]
    simp [Std.Legacy.Range.forIn_eq_forIn_range', List.range', Sem.run_bind, h00, h01, h10, h11, e1, Sem.run_ite, hs]
    by_cases h1 : a1 = b1 <;> by_cases h2 : a2 = b2 <;> simp [h1, h2]
  have c2 : ∀ (d : Nat) (w : World) (em : Bool) (a : Int × Int), (Instr.checkKey em (d + 1 + 1) kt (arr2K a)).run P w = .ok () w := by
    intro d w em a
    have e1 : ∀ (w : World) (x : Int), (Instr.checkKey em (d + 1) E (.int .i64 x)).run P w = .ok () w := fun w x => by
      simp [Instr.checkKey, Sem.run_bind, run_underlying hE]
    have h00 := fun w => hp w a.1 a.2 0 (by omega); have h01 := fun w => hp w a.1 a.2 1 (by omega)
    simp only [Nat.zero_mul, Nat.one_mul, if_true, Nat.one_ne_zero, if_false] at h00 h01
    rw [Instr.checkKey]
    simp only [Sem.run_bind, run_underlying ht, Result.andThen_ok, arr2K, hs]
    simp [Std.Legacy.Range.forIn_eq_forIn_range', List.range', Sem.run_bind, h00, h01, e1, hs]
  have b2 : ∀ (d : Nat) (a : Int × Int), Instr.sameBits (d + 1 + 1) (arr2K a) (arr2K a) = true := fun d a => by simp [Instr.sameBits, arr2K]
  exact aggKL ht (fun a b => rfl) (fun a b w => q2 9998 a b w) (fun w em a => c2 9998 w em a) (fun a => b2 9998 a)
end Go.Proofs.Ytniojcnkjehflaa

/- Maps that the call makes, told by a function that says what each key has (a default for those that are not there). Conditions: none. -/
namespace Go.Proofs.Ytniojcnkjehflaa
open Go.RowKit

section
variable {K V : Type} {P : Program} {n : Nat} {m : List (Nat × Value)} {w x : World} {o : Oper} {B : Nat} {kv : K → Value} {kt e t : TypeId} {q r : Operand} {a : K} {enc : V → Value} {z : V} {g : K → V}

/-- Block B is a map; a key a has g a (z, if it is not there). -/
def MapG [DecidableEq K] (kv : K → Value) (enc : V → Value) (z : V) (w : World) (B : Nat) (g : K → V) : Prop := ∃ l, MapB kv w B l ∧ ∀ a, (getK l a).getD (enc z) = enc (g a)
variable [DecidableEq K]
theorem MapG.lt (h : MapG kv enc z w B g) : B < w.heap.size := by obtain ⟨l, h, _⟩ := h; exact h.lt
theorem MapG.kept {row : Option Nat} (h : MapG kv enc z w B g) (hg : w.grownBy x row) (hne : row ≠ some B) : MapG kv enc z x B g := by
  obtain ⟨l, h1, h2⟩ := h; exact ⟨l, h1.kept hg hne, h2⟩
theorem MapG.below (h : MapG kv enc z w B g) (hb : Below w.heap.size w x) : MapG kv enc z x B g := h.kept (below_grown hb) (by simp)
theorem MapG.row {B' : Nat} {T : TypeId} {sz k : Nat} {v : Value} {xs : List Value} (h : MapG kv enc z w B g) (hr : w.ownsRow B' T sz v k xs) : v.ownBlock ≠ some B := by
  intro e1
  obtain ⟨l, ⟨es, c, h1, _⟩, _⟩ := h
  rcases hr.2 with ⟨rfl, _⟩ | ⟨g1, _, _, rfl, _, hg1, _⟩
  · simp [Value.ownBlock] at e1
  · simp [Value.ownBlock] at e1
    subst e1; rw [h1] at hg1; cases hg1
theorem MapB.toG (h : MapB kv w B []) (enc : V → Value) (z : V) : MapG kv enc z w B (fun _ => z) := ⟨[], h, fun a => by simp⟩
theorem op_makeG (kv : K → Value) (enc : V → Value) (z : V) (hrun : (execOp (lk m) o).run P w = .ok (.value (.map (some w.heap.size))) (w.alloc (.map #[] 0))) (hok : okOps m o.op = true) (hsel : (match o.op with | .select .. => true | _ => false) = false) :
    Op1 P n m o w (fun u x => ∃ N, u = .map (some N) ∧ N = w.heap.size ∧ x.heap.size = N + 1 ∧ MapG kv enc z x N (fun _ => z) ∧ w.grownBy x none) :=
  (op_makeMap kv hrun hok hsel).mono fun u x ⟨N, h1, h2, h3, h4, h5⟩ => ⟨N, h1, h2, h3, h4.toG enc z, h5⟩
theorem rn_lookG (KK : KL P kt kv) (ho : o.op = .lookup t q r false) (hq : ev m q = some (.map (some B))) (hr : ev m r = some (kv a)) (ht : P.underlying t = some (.map kt e)) (hz : ∀ w : World, (zeroValue e).run P w = .ok (enc z) w) (h : MapG kv enc z w B g) :
    (execOp (lk m) o).run P w = .ok (.value (enc (g a))) w := by
  obtain ⟨l, h1, h2⟩ := h
  rw [← h2 a]; exact rn_look KK ho hq hr ht hz h1
/-- The entry of the key a bears this stamp. -/
def Stamp (kv : K → Value) (w : World) (B : Nat) (s : Nat) (a : K) : Prop := ∃ es clock, w.heap[B]? = some (.map es clock) ∧ ∃ e0 ∈ es.toList, e0.born = s ∧ e0.key = kv a
theorem run_entry (KK : KL P kt kv) (ht : P.underlying t = some (.map kt e)) (hz : ∀ w : World, (zeroValue e).run P w = .ok (enc z) w) (h : MapG kv enc z w B g) :
    ∃ s x, (Instr.mapEntry t (.map (some B)) (kv a)).run P w = .ok (.tuple #[enc (g a), .int .i64 (s : Nat)]) x ∧ MapG kv enc z x B g ∧ Stamp kv x B s a ∧ x.heap.size = w.heap.size ∧ w.grownBy x (some B) := by
  obtain ⟨l, hM, h2⟩ := h
  have hM0 := hM
  obtain ⟨es, cl, h1, hl, h3, h4, h5⟩ := hM
  have hlt := (Array.getElem?_eq_some_iff.1 h1).1
  have hg : (getObj B).run P w = .ok (.map es cl) w := by simp [getObj, Sem.run, h1]
  have hso : ∀ ob : Obj, (setObj B ob).run P w = .ok () { w with heap := w.heap.setIfInBounds B ob } := fun ob => by simp [setObj, Sem.run, h1]
  have hf := KK.fnd w a es.toList l hl
  cases hL : lookK a l 0 with
  | none =>
    have hga : enc (g a) = enc z := by rw [← h2 a]; simp [getK, hL]
    refine ⟨cl, { w with heap := w.heap.setIfInBounds B (.map (es.push { key := kv a, val := enc z, born := cl }) (cl + 1)) }, ?_, ⟨l ++ [(a, enc z)], ⟨es.push { key := kv a, val := enc z, born := cl }, cl + 1, by simp [hlt], by simp [hl], ?_, ?_, ?_⟩, ?_⟩, ⟨es.push { key := kv a, val := enc z, born := cl }, cl + 1, by simp [hlt], { key := kv a, val := enc z, born := cl }, by simp, rfl, rfl⟩, by simp, setObj_grown w B _⟩
    · simp only [Instr.mapEntry, Sem.run_bind, run_underlying ht, Result.andThen_ok, hg, KK.chk, hf, hL, hz, hso, Sem.run_pure, hga, goInt]
    · have := putK_keys l a (enc z) h3
      simpa [putK, hL] using this
    · simp only [Array.toList_push, List.map_append, List.map_cons, List.map_nil]
      rw [List.nodup_append]
      refine ⟨h4, by simp, fun y hy z hz => ?_⟩
      obtain ⟨e0, he, rfl⟩ := List.mem_map.1 hy
      simp at hz; subst hz
      have := h5 e0 he; omega
    · intro e0 he
      simp only [Array.toList_push, List.mem_append, List.mem_singleton] at he
      rcases he with he | rfl
      · have := h5 e0 he; omega
      · exact Nat.lt_succ_self _
    · intro b
      have hp := getK_put l a (enc z) b
      simp only [putK, hL] at hp
      rw [hp]
      by_cases e1 : b = a
      · subst e1; simp [hga]
      · simp [e1, h2]
  | some p =>
    obtain ⟨i, u⟩ := p
    have hli := lookK_some hL
    have hu : u = enc (g a) := by rw [← h2 a]; simp [getK, hL]
    have hei : (es.toList.map (fun e => (e.key, e.val)))[i]? = some (kv a, u) := by rw [hl]; simp [hli]
    rw [List.getElem?_map] at hei
    cases he : es.toList[i]? with
    | none => rw [he] at hei; simp at hei
    | some e0 =>
      rw [he] at hei
      simp only [Option.map_some, Option.some.injEq, Prod.mk.injEq] at hei
      have he' : es[i]? = some e0 := by rw [← Array.getElem?_toList]; exact he
      have hst : (Instr.keyThatStays e0.key (kv a)).run P w = .ok (kv a) w := by
        rw [hei.1]; unfold Instr.keyThatStays; rw [KK.bits a]; rfl
      have hmod : (es.modify i fun e => { e with key := kv a }) = es := by
        apply Array.ext_getElem?
        intro j
        rw [Array.getElem?_modify]
        by_cases e1 : i = j
        · subst e1; rw [if_pos rfl, he', Option.map_some, ← hei.1]
        · rw [if_neg e1]
      have hww : { w with heap := w.heap.setIfInBounds B (.map es cl) } = w := by
        have : w.heap.setIfInBounds B (.map es cl) = w.heap := by
          apply Array.ext_getElem?
          intro j
          by_cases e1 : B = j
          · subst e1; rw [Array.getElem?_setIfInBounds_self_of_lt hlt, h1]
          · rw [Array.getElem?_setIfInBounds_ne e1]
        rw [this]
      refine ⟨e0.born, w, ?_, ⟨l, hM0, h2⟩, ⟨es, cl, h1, e0, List.mem_of_getElem? he, rfl, hei.1⟩, rfl, World.grownBy.refl _ _⟩
      simp only [Instr.mapEntry, Sem.run_bind, run_underlying ht, Result.andThen_ok, hg, KK.chk, hf, hL, he', Option.map_some, Option.getD_some, hst, hmod, hso, hww, Sem.run_pure, hu, goInt]
theorem op_entryG (KK : KL P kt kv) (ho : o.op = .mapEntry t q r) (hq : ev m q = some (.map (some B))) (hr : ev m r = some (kv a)) (ht : P.underlying t = some (.map kt e)) (hz : ∀ w : World, (zeroValue e).run P w = .ok (enc z) w) (h : MapG kv enc z w B g) :
    Op1 P n m o w (fun u x => ∃ s : Nat, u = .tuple #[enc (g a), .int .i64 (s : Nat)] ∧ MapG kv enc z x B g ∧ Stamp kv x B s a ∧ x.heap.size = w.heap.size ∧ w.grownBy x (some B)) := by
  intro ac ha N Q hN
  obtain ⟨s, x, hx, h1, h2, h3, h4⟩ := run_entry (a := a) KK ht hz h
  unfold Oper.wp execOp
  simp only [ho, ha.ev hq, ha.ev hr, Sem.run_bind, hx, Result.andThen_ok, Sem.run_pure]
  exact hN _ _ ⟨s, rfl, h1, h2, h3, h4⟩
theorem findIdx_stamp : ∀ (l : List MapEntry) (s : Nat) (e0 : MapEntry), e0 ∈ l → e0.born = s → (l.map (·.born)).Nodup → ∃ i, l.findIdx? (fun e => (e.born : Int) == (s : Int)) = some i ∧ l[i]? = some e0
  | [], s, e0, h, _, _ => by simp at h
  | e1 :: r, s, e0, h, hb, hn => by
    simp only [List.map_cons, List.nodup_cons, List.mem_map, not_exists, not_and] at hn
    rw [List.findIdx?_cons]
    by_cases he : e1.born = s
    · refine ⟨0, by simp [he], ?_⟩
      rcases List.mem_cons.1 h with rfl | h
      · rfl
      · exact absurd (hb.trans he.symm) (hn.1 e0 h)
    · have h' : e0 ∈ r := by
        rcases List.mem_cons.1 h with rfl | h
        · exact absurd hb he
        · exact h
      obtain ⟨i, h1, h2⟩ := findIdx_stamp r s e0 h' hb hn.2
      have hne : ((e1.born : Int) == (s : Int)) = false := by simp; omega
      exact ⟨i + 1, by simp [hne, h1], by simpa using h2⟩
omit [DecidableEq K] in
theorem nodup_ne : ∀ (l : List K), l.Nodup → ∀ (j i : Nat), j < i → ∀ b, l[j]? = some b → l[i]? = some b → False
  | [], _, j, i, _, b, h, _ => by simp at h
  | c :: r, hn, 0, i + 1, _, b, h1, h2 => by
    simp at h1 h2; subst h1
    exact (List.nodup_cons.1 hn).1 (List.mem_of_getElem? h2)
  | c :: r, hn, j + 1, i + 1, hj, b, h1, h2 => nodup_ne r (List.nodup_cons.1 hn).2 j i (by omega) b (by simpa using h1) (by simpa using h2)
/-- A store at an entry that was told. -/
theorem op_entryStoreG (hinj : ∀ a b, kv a = kv b → a = b) {s u : Operand} {st : Nat} {v : V} (ho : o.op = .entryStore t q s u) (hq : ev m q = some (.map (some B))) (hs : ev m s = some (.int .i64 (st : Nat))) (hu : ev m u = some (enc v)) (h : MapG kv enc z w B g) (hst : Stamp kv w B st a) :
    Op1 P n m o w (fun _ x => MapG kv enc z x B (fun b => if b = a then v else g b) ∧ x.heap.size = w.heap.size ∧ w.grownBy x (some B)) := by
  intro ac ha N Q hN
  obtain ⟨l, ⟨es, cl, h1, hl, h3, h4, h5⟩, h2⟩ := h
  obtain ⟨es', cl', h1', e0, hm, hb, hk⟩ := hst
  rw [h1] at h1'; cases h1'
  have hlt := (Array.getElem?_eq_some_iff.1 h1).1
  have hg : (getObj B).run P w = .ok (.map es cl) w := by simp [getObj, Sem.run, h1]
  have hso : ∀ ob : Obj, (setObj B ob).run P w = .ok () { w with heap := w.heap.setIfInBounds B ob } := fun ob => by simp [setObj, Sem.run, h1]
  obtain ⟨i, hfi, hi⟩ := findIdx_stamp es.toList st e0 hm hb h4
  have hfa : es.findIdx? (fun e => (e.born : Int) == (st : Int)) = some i := by rw [← hfi, ← List.findIdx?_toArray]
  have hli : ∃ u0, l[i]? = some (a, u0) := by
    have hj : (es.toList.map (fun e => (e.key, e.val)))[i]? = (l.map (fun p => (kv p.1, p.2)))[i]? := by rw [hl]
    rw [List.getElem?_map, List.getElem?_map, hi] at hj
    cases hy : l[i]? with
    | none => rw [hy] at hj; simp at hj
    | some p =>
      rw [hy] at hj
      simp only [Option.map_some, Option.some.injEq, Prod.mk.injEq] at hj
      obtain ⟨p1, p2⟩ := p
      have : p1 = a := hinj _ _ (by rw [← hj.1, hk])
      subst this; exact ⟨p2, rfl⟩
  obtain ⟨u0, hli⟩ := hli
  have hfirst : ∀ j, j < i → ∀ p, l[j]? = some p → p.1 ≠ a := by
    intro j hj p hp e1
    exact nodup_ne (l.map (·.1)) h3 j i hj p.1 (by rw [List.getElem?_map, hp]; rfl) (by rw [List.getElem?_map, hli, e1]; rfl)
  have hrun : (Instr.entryStore t (.map (some B)) (.int .i64 (st : Nat)) (enc v)).run P w = .ok () { w with heap := w.heap.setIfInBounds B (.map (es.modify i fun e => { e with val := enc v }) cl) } := by
    simp only [Instr.entryStore, Sem.run_bind, hg, Result.andThen_ok, asInt, asIntOf, hfa, hso, Sem.run_pure]
  unfold Oper.wp execOp
  simp only [ho, ha.ev hq, ha.ev hs, ha.ev hu, Sem.run_bind, hrun, Result.andThen_ok, Sem.run_pure]
  refine hN _ _ ⟨⟨l.modify i fun p => (p.1, enc v), ⟨es.modify i fun e => { e with val := enc v }, cl, by simp [hlt], ?_, ?_, ?_, ?_⟩, fun b => ?_⟩, by simp, setObj_grown w B _⟩
  · rw [Array.toList_modify]
    apply List.ext_getElem?
    intro j
    have hj : (es.toList.map (fun e => (e.key, e.val)))[j]? = (l.map (fun p => (kv p.1, p.2)))[j]? := by rw [hl]
    simp only [List.getElem?_map, List.getElem?_modify] at hj ⊢
    cases hx : es.toList[j]? <;> cases hy : l[j]? <;> simp_all
    split <;> simp_all
  · have : (l.modify i fun p => (p.1, enc v)).map (·.1) = l.map (·.1) := by
      apply List.ext_getElem?
      intro j
      simp only [List.getElem?_map, List.getElem?_modify]
      cases l[j]? <;> simp
      split <;> rfl
    rw [this]; exact h3
  · have : (es.toList.modify i fun e => { e with val := enc v }).map (·.born) = es.toList.map (·.born) := by
      apply List.ext_getElem?
      intro j
      simp only [List.getElem?_map, List.getElem?_modify]
      cases es.toList[j]? <;> simp
      split <;> rfl
    rw [Array.toList_modify, this]; exact h4
  · intro e1 h1'
    rw [Array.toList_modify] at h1'
    obtain ⟨j, hj⟩ := List.getElem?_of_mem h1'
    rw [List.getElem?_modify] at hj
    cases hx : es.toList[j]? with
    | none => rw [hx] at hj; simp at hj
    | some e2 =>
      rw [hx] at hj
      have := h5 e2 (List.mem_of_getElem? hx)
      simp at hj; subst hj
      split <;> simpa using this
  · rw [getK_modify l i a u0 (enc v) b hli hfirst]
    by_cases e1 : b = a <;> simp [e1, h2]
end
theorem arr2K_inj : ∀ a b, arr2K a = arr2K b → a = b := fun a b h => by
  simp [arr2K] at h; exact Prod.ext h.1 h.2
end Go.Proofs.Ytniojcnkjehflaa

/- Ranges over maps that the call made: what is still to come, whichever comes next. Conditions: none. -/
namespace Go.Proofs.Ytniojcnkjehflaa
open Go.RowKit Go.ChangeMaps

section
variable {K : Type} {P : Program} {n : Nat} {m : List (Nat × Value)} {w x : World} {o : Oper} {B r : Nat} {l left : List (K × Value)} {kv : K → Value} {kt e t : TypeId} {q : Operand}
/-- Block r ranges over the map at B; left is still to come. -/
def IterB (kv : K → Value) (w : World) (r B : Nat) (left : List (K × Value)) : Prop :=
  ∃ es clock since seen c0, w.heap[B]? = some (.map es clock) ∧ w.heap[r]? = some (.mapIter (some B) since seen c0) ∧ since ≤ c0 ∧ c0 = clock ∧ (∀ e ∈ es.toList, e.born < since) ∧ (es.toList.map (·.born)).Nodup ∧
    (es.toList.filter fun e => !seen.contains e.born).map (fun e => (e.key, e.val)) = left.map (fun p => (kv p.1, p.2))
theorem IterB.lt (h : IterB kv w r B left) : r < w.heap.size := by obtain ⟨_, _, _, _, _, _, h, _⟩ := h; exact (Array.getElem?_eq_some_iff.1 h).1
theorem IterB.kept {row : Option Nat} (h : IterB kv w r B left) (hg : w.grownBy x row) (h1 : row ≠ some B) (h2 : row ≠ some r) : IterB kv x r B left := by
  obtain ⟨es, c, s, sn, c0, a1, a2, a3⟩ := h
  exact ⟨es, c, s, sn, c0, by rw [hg.block B (Array.getElem?_eq_some_iff.1 a1).1 (fun e => h1 e.symm)]; exact a1, by rw [hg.block r (Array.getElem?_eq_some_iff.1 a2).1 (fun e => h2 e.symm)]; exact a2, a3⟩
theorem IterB.row {B' : Nat} {T : TypeId} {sz k : Nat} {v : Value} {xs : List Value} (h : IterB kv w r B left) (hr : w.ownsRow B' T sz v k xs) : v.ownBlock ≠ some B ∧ v.ownBlock ≠ some r := by
  obtain ⟨es, c, s, sn, c0, a1, a2, _⟩ := h
  rcases hr.2 with ⟨rfl, _⟩ | ⟨g1, _, _, rfl, _, hg1, _⟩
  · simp [Value.ownBlock]
  · constructor
    · intro e1
      simp [Value.ownBlock] at e1
      subst e1; rw [a1] at hg1; cases hg1
    · intro e1
      simp [Value.ownBlock] at e1
      subst e1; rw [a2] at hg1; cases hg1
theorem op_range {a : K} (ho : o.op = .range t q) (hq : ev m q = some (.map (some B))) (ht : P.underlying t = some (.map kt e)) (h : MapB kv w B l) :
    Op1 P n m o w (fun u x => ∃ r, u = .pointer (some ⟨r, 0, none⟩) ∧ r = w.heap.size ∧ IterB kv x r B l ∧ x.heap.size = r + 1 ∧ w.grownBy x none) := by
  intro ac ha N Q hN
  obtain ⟨es, cl, h1, h2, h3, h4, h5⟩ := h
  have hg : (getObj B).run P w = .ok (.map es cl) w := by simp [getObj, Sem.run, h1]
  have hrun : (Instr.range t (.map (some B))).run P w = .ok (.pointer (some ⟨w.heap.size, 0, none⟩)) (w.alloc (.mapIter (some B) cl #[] cl)) := by
    simp only [Instr.range, Sem.run_bind, run_underlying ht, Result.andThen_ok, hg, Sem.run_pure]
    rfl
  unfold Oper.wp execOp
  simp only [ho, ha.ev hq, Sem.run_bind, hrun, Result.andThen_ok, Sem.run_pure]
  have hlt := (Array.getElem?_eq_some_iff.1 h1).1
  have hgr := World.grownBy_alloc w (.mapIter (some B) cl #[] cl) none
  refine hN _ _ ⟨w.heap.size, rfl, rfl, ⟨es, cl, cl, #[], cl, ?_, heap_alloc_new w _, Nat.le_refl _, rfl, h5, h4, ?_⟩, by simp, hgr⟩
  · rw [hgr.block B hlt (by simp)]; exact h1
  · rw [← h2]; congr 1; exact List.filter_eq_self.2 (fun _ _ => by simp)
theorem filter_born : ∀ (L1 L2 : List MapEntry) (e : MapEntry), ((L1 ++ e :: L2).map (·.born)).Nodup → (L1 ++ e :: L2).filter (fun x => x.born != e.born) = L1 ++ L2
  | L1, L2, e, h => by
    rw [List.map_append, List.map_cons, List.nodup_append] at h
    obtain ⟨h1, h2, h3⟩ := h
    rw [List.nodup_cons] at h2
    rw [List.filter_append, List.filter_cons]
    simp only [bne_self_eq_false, Bool.false_eq_true, if_false]
    rw [List.filter_eq_self.2, List.filter_eq_self.2]
    · intro y hy
      have : y.born ≠ e.born := fun hq => h2.1 (hq ▸ List.mem_map_of_mem hy)
      simpa using this
    · intro y hy
      have := h3 y.born (List.mem_map_of_mem hy) e.born (by simp)
      simpa using this
/-- The next one: none is left; or one that is left. -/
theorem op_next (ho : o.op = .next q false) (hq : ev m q = some (.pointer (some ⟨r, 0, none⟩))) (h : IterB kv w r B left) :
    Op1 P n m o w (fun u x => (left = [] ∧ u = .tuple #[.bool false] ∧ x = w) ∨
      ∃ p l1 l2, left = l1 ++ p :: l2 ∧ u = .tuple #[.bool true, kv p.1, p.2] ∧ IterB kv x r B (l1 ++ l2) ∧ (Instr.entry (.pointer (some ⟨r, 0, none⟩))).run P x = .ok (.tuple #[kv p.1, p.2]) x ∧ x.heap.size = w.heap.size ∧ w.grownBy x (some r)) := by
  intro ac ha N Q hN
  obtain ⟨es, cl, since, seen, c0, hB, hr, hsc, rfl, hold, hnd, hl⟩ := h
  have hLl : (leftOf es seen).toList = es.toList.filter fun e => !seen.contains e.born := by unfold leftOf; rw [Array.toList_filter]
  unfold Oper.wp execOp
  simp only [ho, ha.ev hq, Sem.run_bind]
  rcases run_next_at (P := P) w o.type r B since c0 seen es c0 hr hB hold hsc with ⟨h0, hrun⟩ | ⟨e, he, w1, hal, hrun⟩
  · simp only [hrun, Result.andThen_ok, Sem.run_pure]
    refine hN _ _ (.inl ⟨?_, rfl, rfl⟩)
    have h1 : (leftOf es seen).toList = [] := by rw [Array.eq_empty_of_size_eq_zero h0]
    rw [← hLl, h1] at hl
    exact List.map_eq_nil_iff.1 hl.symm
  · simp only [hrun, Result.andThen_ok, Sem.run_pure]
    have hem := mem_left he
    rw [hLl] at he
    obtain ⟨L1, L2, hL⟩ := List.append_of_mem he
    rw [hL, List.map_append, List.map_cons] at hl
    obtain ⟨l1, l2', h1, h2, h3⟩ := List.map_eq_append_iff.1 hl.symm
    obtain ⟨p, l2, h4, h5, h6⟩ := List.map_eq_cons_iff.1 h3
    subst h1 h4
    have hkey : kv p.1 = e.key := (Prod.mk.inj h5).1
    have hval : p.2 = e.val := (Prod.mk.inj h5).2
    have hr1 : w1.heap[r]? = some (.mapIter (some B) since seen c0) := by rcases hal with rfl | rfl <;> exact hr
    have hb1 : w1.heap[B]? = some (.map es c0) := by rcases hal with rfl | rfl <;> exact hB
    have hne : B ≠ r := fun e1 => by subst e1; rw [hr] at hB; cases hB
    have hset := Go.MapKept.heap_set (o' := .mapIter (some B) since (seen.push e.born) c0) hr1
    have hb' : (setBlock w1 r (.mapIter (some B) since (seen.push e.born) c0)).heap[B]? = some (.map es c0) := (hset.2 B hne).trans hb1
    have hgr : w.grownBy (setBlock w1 r (.mapIter (some B) since (seen.push e.born) c0)) (some r) := by
      rcases hal with rfl | rfl
      · exact ⟨rfl, rfl, rfl, by simp [setBlock], fun k _ hk => hset.2 k (fun e1 => hk (by rw [e1]))⟩
      · exact ⟨rfl, rfl, rfl, by show _ ≤ (w.heap.setIfInBounds r _).size; simp, fun k _ hk => hset.2 k (fun e1 => hk (by rw [e1]))⟩
    have hsz : (setBlock w1 r (.mapIter (some B) since (seen.push e.born) c0)).heap.size = w.heap.size := by
      rcases hal with rfl | rfl
      · simp [setBlock]
      · show (w.heap.setIfInBounds r _).size = _; simp
    have hen := run_entry_at (P := P) _ r B since seen es c0 e hset.1 hb' hem.1 hnd
    rw [← hkey, ← hval]
    refine hN _ _ (.inr ⟨p, l1, l2, rfl, rfl, ⟨es, c0, since, seen.push e.born, c0, hb', hset.1, hsc, rfl, hold, hnd, ?_⟩, by rw [hen, hkey, hval], hsz, hgr⟩)
    have hf : (es.toList.filter fun x => !(seen.push e.born).contains x.born) = (es.toList.filter fun x => !seen.contains x.born).filter fun x => x.born != e.born := by
      rw [List.filter_filter]
      congr 1
      funext y
      rw [contains_push]
      cases seen.contains y.born <;> cases hq : (y.born == e.born) <;> simp [bne, hq]
    rw [hf, hL, filter_born L1 L2 e, List.map_append, ← h2, ← h6, List.map_append]
    rw [← hL]
    exact (List.filter_sublist.map _).nodup hnd
end
end Go.Proofs.Ytniojcnkjehflaa

/- Maps that the call made, told by a function: what a key has, if anything; and ranges over them. Conditions: none. -/
namespace Go.Proofs.Ytniojcnkjehflaa
open Go.RowKit

section
variable {K V : Type} [DecidableEq K] {P : Program} {n : Nat} {m : List (Nat × Value)} {w x : World} {o : Oper} {B r c : Nat} {kv : K → Value} {enc : V → Value} {g : K → Option V} {kt e t : TypeId} {q s : Operand} {a : K} {v : V} {left : List (K × V)}
/-- Block B is a map of at most c entries; a key a has g a. -/
def MapO (kv : K → Value) (enc : V → Value) (w : World) (B : Nat) (g : K → Option V) (c : Nat) : Prop := ∃ l, MapB kv w B l ∧ (∀ a, getK l a = (g a).map enc) ∧ l.length ≤ c
theorem MapO.lt (h : MapO kv enc w B g c) : B < w.heap.size := by obtain ⟨l, h, _⟩ := h; exact h.lt
theorem MapO.kept {row : Option Nat} (h : MapO kv enc w B g c) (hg : w.grownBy x row) (hne : row ≠ some B) : MapO kv enc x B g c := by
  obtain ⟨l, h1, h2⟩ := h; exact ⟨l, h1.kept hg hne, h2⟩
theorem MapO.below (h : MapO kv enc w B g c) (hb : Below w.heap.size w x) : MapO kv enc x B g c := h.kept (below_grown hb) (by simp)
theorem MapO.row {B' : Nat} {T : TypeId} {sz k : Nat} {u : Value} {xs : List Value} (h : MapO kv enc w B g c) (hr : w.ownsRow B' T sz u k xs) : u.ownBlock ≠ some B := by
  intro e1
  obtain ⟨l, ⟨es, c', h1, _⟩, _⟩ := h
  rcases hr.2 with ⟨rfl, _⟩ | ⟨g1, _, _, rfl, _, hg1, _⟩
  · simp [Value.ownBlock] at e1
  · simp [Value.ownBlock] at e1
    subst e1; rw [h1] at hg1; cases hg1
theorem MapO.eq {g' : K → Option V} {c' : Nat} (h : MapO kv enc w B g c) (hg : g = g') (hc : c ≤ c') : MapO kv enc w B g' c' := by
  subst hg; obtain ⟨l, h1, h2, h3⟩ := h; exact ⟨l, h1, h2, Nat.le_trans h3 hc⟩
theorem op_makeO (kv : K → Value) (enc : V → Value) (hrun : (execOp (lk m) o).run P w = .ok (.value (.map (some w.heap.size))) (w.alloc (.map #[] 0))) (hok : okOps m o.op = true) (hsel : (match o.op with | .select .. => true | _ => false) = false) :
    Op1 P n m o w (fun u x => ∃ N, u = .map (some N) ∧ N = w.heap.size ∧ x.heap.size = N + 1 ∧ MapO kv enc x N (fun _ => none) 0 ∧ w.grownBy x none) :=
  (op_makeMap kv hrun hok hsel).mono fun u x ⟨N, h1, h2, h3, h4, h5⟩ => ⟨N, h1, h2, h3, ⟨[], h4, fun a => by simp, by simp⟩, h5⟩
theorem rn_lenO {ts : Array TypeId} (ho : o.op = .call { callee := .builtin .len, args := #[q], argTypes := #[t] }) (hq : ev m q = some (.map (some B))) (ht : P.underlying t = some (.map kt e)) (h : MapO kv enc w B g c) :
    ∃ k : Nat, k ≤ c ∧ (execOp (lk m) o).run P w = .ok (.value (.int .i64 (k : Nat))) w := by
  obtain ⟨l, h1, h2, h3⟩ := h
  exact ⟨l.length, h3, rn_lenMap (ts := ts) ho hq ht h1⟩
theorem op_lenO {ts : Array TypeId} (ho : o.op = .call { callee := .builtin .len, args := #[q], argTypes := #[t] }) (hq : ev m q = some (.map (some B))) (ht : P.underlying t = some (.map kt e)) (h : MapO kv enc w B g c) (hok : okOps m o.op = true) (hsel : (match o.op with | .select .. => true | _ => false) = false) :
    Op1 P n m o w (fun u x => ∃ k : Nat, u = .int .i64 ((k : Nat) : Int) ∧ k ≤ c ∧ w = x) := by
  obtain ⟨k, h1, h2⟩ := rn_lenO (ts := ts) ho hq ht h
  exact (op_run hok hsel h2).mono fun u x ⟨e1, e2⟩ => ⟨k, e1, h1, e2.symm⟩
/-- lt holds just what g has. -/
def Full (g : K → Option V) (lt : List (K × V)) : Prop := (lt.map (·.1)).Nodup ∧ ∀ a v, g a = some v ↔ (a, v) ∈ lt
theorem getK_mem : ∀ (l : List (K × Value)) (a : K) (u : Value), (l.map (·.1)).Nodup → (getK l a = some u ↔ (a, u) ∈ l)
  | [], a, u, _ => by simp
  | p :: r, a, u, h => by
    rw [List.map_cons, List.nodup_cons] at h
    have ih := getK_mem r a u h.2
    rw [getK_cons]
    by_cases e1 : a = p.1
    · rw [if_pos e1]
      constructor
      · intro h1
        have : p.2 = u := Option.some.inj h1
        exact List.mem_cons.2 (.inl (Prod.ext e1 this.symm))
      · intro h1
        rcases List.mem_cons.1 h1 with h2 | h2
        · rw [← h2]
        · exact absurd (e1 ▸ List.mem_map_of_mem (f := (·.1)) h2) h.1
    · rw [if_neg e1, ih]
      constructor
      · exact fun h1 => List.mem_cons_of_mem _ h1
      · intro h1
        rcases List.mem_cons.1 h1 with h2 | h2
        · exact absurd (by rw [← h2]) e1
        · exact h2
omit [DecidableEq K] in
theorem typed_list (g : K → Option V) (enc : V → Value) : ∀ (l : List (K × Value)), (∀ p ∈ l, (g p.1).map enc = some p.2) → ∃ lt : List (K × V), l = lt.map (fun p => (p.1, enc p.2)) ∧ ∀ p ∈ lt, g p.1 = some p.2
  | [], _ => ⟨[], rfl, by simp⟩
  | p :: r, h => by
    obtain ⟨lt, h1, h2⟩ := typed_list g enc r (fun y hy => h y (List.mem_cons_of_mem _ hy))
    have hp := h p (by simp)
    cases hg : g p.1 with
    | none => rw [hg] at hp; cases hp
    | some v =>
      rw [hg] at hp
      have hv : enc v = p.2 := Option.some.inj hp
      refine ⟨(p.1, v) :: lt, by rw [List.map_cons, ← h1, hv], fun y hy => ?_⟩
      rcases List.mem_cons.1 hy with rfl | hy
      · exact hg
      · exact h2 y hy
theorem MapO.list (h : MapO kv enc w B g c) : ∃ lt : List (K × V), MapB kv w B (lt.map fun p => (p.1, enc p.2)) ∧ Full g lt ∧ lt.length ≤ c := by
  obtain ⟨l, h1, h2, h3⟩ := h
  have hn := h1.keys
  obtain ⟨lt, e1, e2⟩ := typed_list g enc l (fun p hp => by rw [← h2]; exact (getK_mem l p.1 p.2 hn).2 hp)
  subst e1
  have hn' : (lt.map (·.1)).Nodup := by rw [List.map_map] at hn; exact hn
  refine ⟨lt, h1, ⟨hn', fun a v => ⟨fun hg => ?_, fun hm => e2 _ hm⟩⟩, by simpa using h3⟩
  have h4 := h2 a
  rw [hg] at h4
  have h5 := (getK_mem _ a (enc v) hn).1 h4
  obtain ⟨p, hp, hq⟩ := List.mem_map.1 h5
  have e3 : p.1 = a := (Prod.mk.inj hq).1
  have e4 := e2 p hp
  rw [e3, hg] at e4
  have : v = p.2 := Option.some.inj e4
  rw [← e3, this]; exact hp
/-- A range over it, what is still to come told as keys and values. -/
def IterO (kv : K → Value) (enc : V → Value) (w : World) (r B : Nat) (left : List (K × V)) : Prop := IterB kv w r B (left.map fun p => (p.1, enc p.2))
omit [DecidableEq K] in
theorem IterO.lt (h : IterO kv enc w r B left) : r < w.heap.size := IterB.lt h
omit [DecidableEq K] in
theorem IterO.kept {row : Option Nat} (h : IterO kv enc w r B left) (hg : w.grownBy x row) (h1 : row ≠ some B) (h2 : row ≠ some r) : IterO kv enc x r B left := IterB.kept h hg h1 h2
omit [DecidableEq K] in
theorem IterO.row {B' : Nat} {T : TypeId} {sz k : Nat} {u : Value} {xs : List Value} (h : IterO kv enc w r B left) (hr : w.ownsRow B' T sz u k xs) : u.ownBlock ≠ some B ∧ u.ownBlock ≠ some r := IterB.row h hr
theorem op_rangeO (a : K) (ho : o.op = .range t q) (hq : ev m q = some (.map (some B))) (ht : P.underlying t = some (.map kt e)) (h : MapO kv enc w B g c) :
    Op1 P n m o w (fun u x => ∃ r, u = .pointer (some ⟨r, 0, none⟩) ∧ r = w.heap.size ∧ x.heap.size = r + 1 ∧ (∃ lt : List (K × V), IterO kv enc x r B lt ∧ Full g lt ∧ lt.length ≤ c) ∧ w.grownBy x none) := by
  obtain ⟨lt, h1, h2, h3⟩ := h.list
  exact (op_range (a := a) ho hq ht h1).mono fun u x ⟨r, k1, k2, k3, k4, k5⟩ => ⟨r, k1, k2, k4, ⟨lt, k3, h2, h3⟩, k5⟩
omit [DecidableEq K] in
theorem op_nextO (ho : o.op = .next q false) (hq : ev m q = some (.pointer (some ⟨r, 0, none⟩))) (h : IterO kv enc w r B left) :
    Op1 P n m o w (fun u x => (left = [] ∧ u = .tuple #[.bool false] ∧ w = x) ∨
      ∃ p l1 l2, left = l1 ++ p :: l2 ∧ u = .tuple #[.bool true, kv p.1, enc p.2] ∧ IterO kv enc x r B (l1 ++ l2) ∧ (Instr.entry (.pointer (some ⟨r, 0, none⟩))).run P x = .ok (.tuple #[kv p.1, enc p.2]) x ∧ x.heap.size = w.heap.size ∧ w.grownBy x (some r)) :=
  (op_next ho hq h).mono fun u x hx => by
    rcases hx with ⟨h1, h2, h3⟩ | ⟨p, l1, l2, h1, h2, h3, h4, h5, h6⟩
    · exact .inl ⟨List.map_eq_nil_iff.1 h1, h2, h3.symm⟩
    · obtain ⟨k1, k2', e1, e2, e3⟩ := List.map_eq_append_iff.1 h1
      obtain ⟨p', k2, e4, e5, e6⟩ := List.map_eq_cons_iff.1 e3
      subst e1 e4 e2 e5 e6
      exact .inr ⟨p', k1, k2, rfl, h2, by unfold IterO; rw [List.map_append]; exact h3, h4, h5, h6⟩
end
section
variable {P : Program} {n : Nat} {m : List (Nat × Value)} {w : World} {o : Oper}
/-- make of no element, room for k: the call's own row. -/
theorem op_makeOwn {α : Type} {enc : α → List Value} {p q : Operand} {base k : Nat} {t e : TypeId} {z : Value} {size by_ : Nat} (ho : o.op = .makeSlice t p q) (hp : ev m p = some (.int .i64 0)) (hq : ev m q = some (.int .i64 ((k : Nat) : Int)))
    (h1 : P.underlying t = some (.slice e)) (hi : (P.info? e).map (fun i => (i.zero, i.size, i.bytes)) = some (some z, size, by_)) (b2 : by_ * k ≤ 281474976710656) (b3 : k ≤ maxLen) (b4 : base ≤ w.heap.size) :
    Op1 P n m o w (fun u x => ∃ N, u = .slice (some ⟨N, 0, none⟩) 0 k ∧ N = w.heap.size ∧ x.ownsRow base e size (.slice (some ⟨N, 0, none⟩) 0 k) ([] : List α).length (([] : List α).flatMap enc) ∧ w.grownBy x none) := by
  intro ac ha N Q hN
  obtain ⟨i, h2, h3, h4, h5⟩ := info_parts hi
  subst h5
  obtain ⟨x, hx, k1, k2⟩ := run_make_own (P := P) w base t e i z size h1 h2 h3 h4 .i64 .i64 k b2 b3 b4
  unfold Oper.wp
  simp [execOp, ho, ha.ev hp, ha.ev hq, hx, Result.andThen]
  exact hN _ _ ⟨w.heap.size, rfl, rfl, k1, k2⟩
end
end Go.Proofs.Ytniojcnkjehflaa

/- A world that is as another was, but for some blocks. Conditions: none. -/
namespace Go.Proofs.Ytniojcnkjehflaa
open Go.RowKit

/-- What was there is as it was, but for the blocks that S tells. -/
structure But (S : Nat → Prop) (w w' : World) : Prop where
  os : w'.os = w.os
  tape : w'.tape = w.tape
  output : w'.output = w.output
  size : w.heap.size ≤ w'.heap.size
  block : ∀ k, k < w.heap.size → ¬ S k → w'.heap[k]? = w.heap[k]?

theorem But.refl (S : Nat → Prop) (w : World) : But S w w := ⟨rfl, rfl, rfl, Nat.le_refl _, fun _ _ _ => rfl⟩
theorem But.trans {S : Nat → Prop} {a b c : World} (h : But S a b) (k : But S b c) : But S a c :=
  ⟨k.os.trans h.os, k.tape.trans h.tape, k.output.trans h.output, Nat.le_trans h.size k.size, fun i hi hs => (k.block i (Nat.lt_of_lt_of_le hi h.size) hs).trans (h.block i hi hs)⟩
theorem But.mono {S S' : Nat → Prop} {w w' : World} (h : But S w w') (hs : ∀ k, k < w.heap.size → S k → S' k) : But S' w w' :=
  ⟨h.os, h.tape, h.output, h.size, fun k hk hn => h.block k hk (fun h1 => hn (hs k hk h1))⟩
theorem But.below {S : Nat → Prop} {w w' : World} {B : Nat} (h : But S w w') (hB : B ≤ w.heap.size) (hs : ∀ k, k < w.heap.size → S k → B ≤ k) : Below B w w' :=
  ⟨h.os, h.tape, h.output, h.size, fun k hk => h.block k (by omega) (fun h1 => by have := hs k (by omega) h1; omega)⟩
/-- Two steps, the second one over blocks that may be new. -/
theorem But.trans' {S S' : Nat → Prop} {a b c : World} (h : But S a b) (k : But S' b c) (hs : ∀ i, i < a.heap.size → S' i → S i) : But S a c :=
  ⟨k.os.trans h.os, k.tape.trans h.tape, k.output.trans h.output, Nat.le_trans h.size k.size, fun i hi hn => (k.block i (Nat.lt_of_lt_of_le hi h.size) (fun h1 => hn (hs i hi h1))).trans (h.block i hi hn)⟩
theorem But.alloc {S : Nat → Prop} {a w : World} (h : But S a w) (o : Obj) : But S a (w.alloc o) :=
  h.trans ⟨rfl, rfl, rfl, by simp, fun k hk _ => Below.heap_alloc _ _ _ hk⟩
theorem But.drew {S : Nat → Prop} {a w : World} (h : But S a w) : But S a w.drew := ⟨h.os, h.tape, h.output, h.size, h.block⟩
theorem But.setCell {S : Nat → Prop} {a w : World} (h : But S a w) {p : Addr} (hp : p.block < a.heap.size → S p.block) (u : Value) : But S a (w.setCell p u) :=
  h.trans' (S' := fun k => k = p.block) ⟨rfl, rfl, rfl, by simp [World.setCell], fun k _ hn => Below.heap_setCell _ _ _ _ hn⟩ (fun i hi e => by subst e; exact hp hi)
theorem But.cell {S : Nat → Prop} {w w' : World} (h : But S w w') {a : Addr} {v : Value} (hs : ¬ S a.block) (hc : w.cell? a = some v) : w'.cell? a = some v := by
  rw [World.cell?_of_block (w := w) (h.block _ (World.block_lt_of_cell? w a hc) hs)]; exact hc
theorem But.frozen {S : Nat → Prop} {w w' : World} (h : But S w w') {a : Addr} (hl : a.block < w.heap.size) (hs : ¬ S a.block) : w'.frozen? a = w.frozen? a := World.frozen?_of_block (w := w) (h.block _ hl hs)
/-- A store into one block. -/
theorem But.store {a w : World} {b : Nat} (h : But (fun x => x = b) a w) (o : Nat) (u : Value) : But (fun x => x = b) a (w.setCell ⟨b, o, none⟩ u) :=
  h.setCell (p := ⟨b, o, none⟩) (fun _ => rfl) u
end Go.Proofs.Ytniojcnkjehflaa

/- Steps of a walk over an object's own parts: effects upon a set of blocks, appends that tell where the row went, bytes, maps looked up, rows and maps cleared. Conditions: none. -/
namespace Go.Proofs.Ytniojcnkjehflaa
open Go.RowKit

section
variable {P : Program} {n : Nat} {m : List (Nat × Value)} {w x w0 : World} {o : Oper} {N : Nat} {T : TypeId} {cs : Array Value} {S : Nat → Prop} {v u : Value} {k : Nat}
/-- Where a row lies: in S, or it was made since a world of n blocks. -/
def InS (S : Nat → Prop) (n : Nat) (v : Value) : Prop := ∀ k, v.ownBlock = some k → S k ∨ n ≤ k
theorem InS.nil : InS S k (.slice none 0 0) := fun i hi => by simp [Value.ownBlock] at hi
theorem InS.of (h : ∀ i, v.ownBlock = some i → S i) : InS S k v := fun i hi => .inl (h i hi)
theorem InS.low {B : Nat} {e : TypeId} {sz q : Nat} {xs : List Value} (h : w.ownsRow B e sz v q xs) (hB : k ≤ B) : InS S k v := fun i hi => .inr (Nat.le_trans hB (h.lt i hi).1)
end
section
variable {K V : Type} [DecidableEq K] {P : Program} {n : Nat} {m : List (Nat × Value)} {w x : World} {o : Oper} {B r c : Nat} {kv : K → Value} {enc : V → Value} {g : K → Option V} {kt e t : TypeId} {q s : Operand} {a : K} {v : V}
end
section
variable {P : Program} {n : Nat} {m : List (Nat × Value)} {w : World} {o : Oper} {v : Value} {α : Type} {enc : α → List Value} {l : List α} {sz base : Nat} {T : TypeId}
end
end Go.Proofs.Ytniojcnkjehflaa

/- Package ops: Check of both. Conditions: none. -/
namespace Go.Proofs.Ytniojcnkjehflaa
open Go.RowKit Go.PlainAid
set_option linter.unusedVariables false


abbrev OpT := ByteArray × ByteArray × Bool
def opE (o : OpT) : List Value := [.string o.1, .string o.2.1, .bool o.2.2]
theorem opE_len (o : OpT) : (opE o).length = 3 := rfl
theorem opE_one (o : OpT) : ∀ u ∈ opE o, u.oneCell' = true := by intro u hu; simp [opE] at hu; rcases hu with rfl | rfl | rfl <;> rfl
theorem eq_op (a b d e : ByteArray) (c f : Bool) (w : World) : (binOp .eql 74 (.agg #[.string a, .string b, .bool c]) (.agg #[.string d, .string e, .bool f])).run Try.prog w = .ok (.bool (a.toList == d.toList && b.toList == e.toList && c == f)) w := by
  have u := Try.underlying9
  have u' := Try.underlying4
  have hS : Try.prog.underlying 74 = some (.struct (Try.prog.fieldsOf 74)) := by kernel_rfl
  have hp : Try.prog.stoodInHeld 74 = false := by kernel_rfl
  have hf : (Try.prog.fieldsOf 74).toList.map (fun f => (f.offset, f.type)) = [(0, 9), (1, 9), (2, 4)] := by kernel_rfl
  rw [run_eql_struct, show (10000 : Nat) = 9999 + 1 from rfl, run_equalIn_agg w 9999 74 _ _ hS hp]
  simp only [Program.fieldsOf, Try.underlying74]
  go_simp
  by_cases h1 : a.toList = d.toList <;> by_cases h2 : b.toList = e.toList <;> by_cases h3 : c = f <;> simp [h1, h2, h3]
/-- What a key's check answers; an operation's; those of all, each key above the one ahead of it. -/
def keyC (k : ByteArray) : Int := if ((k.size : Nat) : Int) < 1 ∨ ((k.size : Nat) : Int) > 8 then 10 else 0
def delV (o : OpT) : Bool := o.2.2 && !(o.2.1.toList == (⟨#[]⟩ : ByteArray).toList)
def chkOp (o : OpT) : Int := if keyC o.1 ≠ 0 then keyC o.1 else if ((o.2.1.size : Nat) : Int) > 8 then 3 else if delV o = true then 4 else 0
def keyUp (p : Option ByteArray) (k : ByteArray) : Bool := match p with | some q => Op.bytesLess q.toList k.toList | none => true
def chkL : Option ByteArray → List OpT → Int
  | _, [] => 0
  | p, o :: r => if chkOp o ≠ 0 then chkOp o else if keyUp p o.1 = true then chkL (some o.1) r else 18
def chkB (c r : Int) (l : List OpT) : Int := if c < 0 ∨ c ≥ 3 then 1 else if r < 1 ∨ r > 1073741824 then 5 else if ((l.length : Nat) : Int) > 4 then 6 else chkL none l
end Go.Proofs.Ytniojcnkjehflaa

/- Slices of any elements that came in, opened by their readings. Conditions: none. -/
namespace Go.Proofs.Ytniojcnkjehflaa
open Go.RowKit Go.ChangeShapes Go.WideShapes Go.Deep

section
variable {H : Type} {enc : TypeId × Value → H} {P : Program} {w : World} {base : Nat} {spare : Nat → Bool} {held : Bool}
/-- A struct of one-cell fields: each field's cell, and its reading. -/
theorem trod_fields {t : TypeId} {fs : Array Field} {fuel : Nat} {cs : List Value} {x : DataW H × List MemPlace} (hs : P.underlying t = some (.struct fs)) (hone : oneCellFields P fs = true) (hC : P.cellsOf t = fs.size)
    (h : DataW.trod enc P w base spare held fuel t cs = some x) :
    cs.length = fs.size ∧ ∃ m, ∀ (j : Nat) (f : Field), fs[j]? = some f → ∃ c y, cs[j]? = some c ∧ DataW.trod enc P w base spare held m f.type [c] = some y := by
  obtain ⟨xs, m, _, _, hl, hx, hf⟩ := DataW.trod_struct hs h
  rw [hC] at hl
  refine ⟨hl, m, fun j f hj => ?_⟩
  have hjl : j < fs.size := (Array.getElem?_eq_some_iff.1 hj).1
  obtain ⟨o, k⟩ := hone_of hone j f hj
  have h1 := hf j f hj
  rw [o, k, List.drop_eq_getElem_cons (by omega), List.take_succ_cons, List.take_zero, List.getElem?_eq_getElem (by omega)] at h1
  exact ⟨_, _, List.getElem?_eq_getElem (by omega), h1⟩
end
end Go.Proofs.Ytniojcnkjehflaa

/- Slices of texts that came in. Conditions: none. -/
namespace Go.Proofs.Ytniojcnkjehflaa
open Go.RowKit Go.ChangeShapes Go.WideShapes

theorem weights_all_mem {H : Type} {P : Program} {e : TypeId} : ∀ {D : List (DataW H)} {d : DataW H}, d ∈ D → ∀ n ∈ d.weights P e, n ∈ DataW.weightsAll P e D
  | [], _, h, _, _ => absurd h (by simp)
  | x :: D, d, h, n, hn => by
    unfold DataW.weightsAll
    rcases List.mem_cons.1 h with rfl | h
    · exact List.mem_append_left _ hn
    · exact List.mem_append_right _ (weights_all_mem h n hn)
theorem weights_le {H : Type} {P : Program} {ts : List TypeId} {ds : List (DataW H)} (h : (DataW.weightsEach P ts ds).all (· ≤ reachBytes) = true) {j : Nat} {t : TypeId} {d : DataW H} (ht : ts[j]? = some t) (hd : ds[j]? = some d) : ∀ n ∈ d.weights P t, n ≤ reachBytes := fun n hn => by
  have := List.all_eq_true.1 h _ (DataW.weights_mem_each ht hd n hn)
  simpa using this
end Go.Proofs.Ytniojcnkjehflaa

/- Entries of a log that came in (over the texts of ops): a batch (client, request, operations), a timestamp; with how much they hold. Conditions: none. -/
namespace Go.Proofs.Ytniojcnkjehflaa
open Go.RowKit Go.ChangeShapes Go.WideShapes Go.Deep Go.PlainAid

def opOk (o : OpT) : Prop := o.1.size ≤ 9223372036854775807 ∧ o.2.1.size ≤ 9223372036854775807
/-- An entry: client, request, the operations' slice as a value and as a list, timestamp. -/
structure EntT where
  client : Int
  req : Int
  ops : Value
  opl : List OpT
  ts : Int
instance : Inhabited EntT := ⟨⟨0, 0, .slice none 0 0, [], 0⟩⟩
def entE (e : EntT) : List Value := [.int .i64 e.client, .int .i64 e.req, e.ops, .int .u64 e.ts]
/-- What is known of an entry that came in. -/
structure EntOk (w : World) (e : EntT) : Prop where
  ops : SliceOf opE 3 w e.ops e.opl
  each : ∀ o ∈ e.opl, opOk o
  ts0 : 0 ≤ e.ts
  ts1 : e.ts < 18446744073709551616
  cl : (Lit.int .i64 e.client).wf = true
  rq : (Lit.int .i64 e.req).wf = true
theorem EntOk.below {w w' : World} {e : EntT} (h : EntOk w e) (hb : Below w.heap.size w w') : EntOk w' e := ⟨h.ops.below hb, h.each, h.ts0, h.ts1, h.cl, h.rq⟩
section
variable {H : Type} {enc : TypeId × Value → H} {w : World} {base : Nat} {spare : Nat → Bool} {held : Bool}
set_option maxRecDepth 10000 in
theorem elem_opS (n : Nat) (cs : List Value) (x : DataW H × List MemPlace) (h : DataW.trod enc Try.prog w base spare held n 74 cs = some x) : ∃ p : OpT, cs = opE p ∧ opOk p := by
  obtain ⟨hl, m, hf⟩ := trod_fields Try.underlying74 (by kernel_rfl) (by kernel_rfl) h
  have hl3 : cs.length = 3 := hl
  clear hl
  match cs, hl3 with
  | [c0, c1, c2], _ =>
    obtain ⟨_, y0, e0, h0⟩ := hf 0 _ rfl
    obtain ⟨_, y1, e1, h1⟩ := hf 1 _ rfl
    obtain ⟨_, y2, e2, h2⟩ := hf 2 _ rfl
    cases e0; cases e1; cases e2
    obtain ⟨a, e0, _, w0⟩ := DataW.trod_string Try.underlying9 h0
    obtain ⟨b, e1, _, w1⟩ := DataW.trod_string Try.underlying9 h1
    obtain ⟨c, e2, _⟩ := DataW.trod_bool Try.underlying4 h2
    simp only [List.cons.injEq, and_true] at e0 e1 e2
    subst e0 e1 e2
    exact ⟨(a, b, c), rfl, by unfold maxLen at w0; exact w0, by unfold maxLen at w1; exact w1⟩
end
section
variable {H : Type} {enc : TypeId × Value → H} {P : Program} {w : World} {base : Nat} {spare : Nat → Bool} {held : Bool}
theorem weights_all_le {R : Nat} {e : TypeId} {D : List (DataW H)} (h : ∀ n ∈ DataW.weightsAll P e D, n ≤ R) {d : DataW H} (hd : d ∈ D) : ∀ n ∈ d.weights P e, n ≤ R := fun n hn => h n (weights_all_mem hd n hn)
/-- A slice within the form's reach, each element of which is known together with its reading's reach. -/
theorem open_rows_sz {α : Type} [Inhabited α] {t e : TypeId} {fuel : Nat} {cs : List Value} {x : DataW H × List MemPlace} (E : α → List Value) (sz : Nat) (good : α → Prop)
    (ht : P.underlying t = some (.slice e)) (hC : P.cellsOf e = sz) (hpos : 0 < sz) (hw : ∀ n ∈ x.1.weights P t, n ≤ reachBytes)
    (elem : ∀ n cs y, DataW.trod enc P w base spare held n e cs = some y → (∀ n ∈ y.1.weights P e, n ≤ reachBytes) → ∃ a : α, cs = E a ∧ good a)
    (h : DataW.trod enc P w base spare held fuel t cs = some x) :
    ∃ (l : List α) (v : Value), cs = [v] ∧ SliceOf E sz w v l ∧ (∀ a ∈ l, good a) ∧ l.length * P.bytesOf e ≤ reachBytes := by
  rcases open_slice ht h with ⟨hcs, _⟩ | ⟨a, len, cap, m, n, D, Pl, hcs, _, hl, hm, hmm, hx, hi⟩
  · exact ⟨[], _, hcs, SliceOf.nil _ _ _, by simp, by simp⟩
  · have hlm : len ≤ m := by rw [hmm]; split <;> omega
    rw [hC] at hi
    subst hx
    have hw1 : ∀ n, n ∈ DataW.weights (H := H) P t (.slice ((List.range len).map D) ((List.range (m - len)).map fun j => D (len + j))) → n ≤ reachBytes := hw
    unfold DataW.weights at hw1
    rw [ht] at hw1
    simp only [List.mem_cons, List.mem_append, List.length_map, List.length_range] at hw1
    obtain ⟨f, hf⟩ := choose_lt (α := α) (n := len) (p := fun i y => (∀ j u, (E y)[j]? = some u → w.cell? ((a.add (i * sz)).add j) = some u) ∧ good y ∧ (E y).length = sz) (fun i hilt => by
      obtain ⟨cs', hc, ht'⟩ := hi i (by omega)
      obtain ⟨y, rfl, hg⟩ := elem n cs' _ ht' (weights_all_le (D := (List.range len).map D) (fun n hn => hw1 n (.inr (.inl hn))) (List.mem_map.2 ⟨i, List.mem_range.2 hilt, rfl⟩))
      obtain ⟨_, hcl, hat⟩ := World.cells?_some hc
      exact ⟨y, fun j u hu => by
        have hj : j < (E y).length := (List.getElem?_eq_some_iff.1 hu).1
        rw [hat j (by omega), hu], hg, hcl⟩)
    refine ⟨(List.range len).map f, _, hcs, ⟨some a, cap, by simp, by simpa using hl, by unfold maxLen at hm; omega, fun h => (by cases h), fun j hj => ?_⟩, fun y hy => ?_, ?_⟩
    · have hj' : j < len := by simpa using hj
      obtain ⟨b, off, spot⟩ := a
      have hspot : spot = none := by
        obtain ⟨h1, _, h3⟩ := hf 0 (by omega)
        have hc0 := h1 0 _ (List.getElem?_eq_getElem (show 0 < (E (f 0)).length by omega))
        simpa [Addr.add] using World.cell?_spot hc0
      subst hspot
      refine ⟨b, off, rfl, fun i u hu => ?_⟩
      have := (hf j hj').1 i u (by simpa using hu)
      rw [Addr.add_lit, Addr.add_lit] at this
      exact this
    · obtain ⟨i, hi', rfl⟩ := List.mem_map.1 hy
      exact (hf i (List.mem_range.1 hi')).2.1
    · have h0 := hw1 _ (.inl rfl)
      rw [List.length_map, List.length_range]
      exact Nat.le_trans (Nat.mul_le_mul_right _ (by omega)) h0
end
section
variable {H : Type} {enc : TypeId × Value → H} {w : World} {base : Nat} {spare : Nat → Bool} {held : Bool}
/-- An entry that came in, and how many operations it can have. -/
def EntOkS (w : World) (e : EntT) : Prop := EntOk w e ∧ e.opl.length ≤ 3518437208883
set_option maxRecDepth 10000 in
theorem elem_ent_sz (n : Nat) (cs : List Value) (x : DataW H × List MemPlace) (h : DataW.trod enc Try.prog w base spare held n 37 cs = some x) (hw : ∀ n ∈ x.1.weights Try.prog 37, n ≤ reachBytes) : ∃ e, cs = entE e ∧ EntOkS w e := by
  obtain ⟨xs, m, _, hx, hl, hxl, hf⟩ := DataW.trod_struct Try.underlying37 h
  have hl4 : cs.length = 4 := hl
  have hx2 : xs.length = 2 := hxl
  clear hl hxl
  match cs, hl4, xs, hx2 with
  | [c0, c1, c2, c3], _, [y0, y1], _ =>
    have h0' : DataW.trod enc Try.prog w base spare held m 35 [c0, c1, c2] = some y0 := hf 0 _ rfl
    have h1' : DataW.trod enc Try.prog w base spare held m 23 [c3] = some y1 := hf 1 _ rfl
    obtain ⟨ts, e3, _, w3⟩ := DataW.trod_int Try.underlying23 h1'
    have hw0 : ∀ n ∈ y0.1.weights Try.prog 35, n ≤ reachBytes := fun n hn => hw n (by
      have e1 : x.1 = .agg [y0.1, y1.1] := by rw [hx]; rfl
      rw [e1]
      unfold DataW.weights
      rw [Try.underlying37]
      exact DataW.weights_mem_each (j := 0) rfl rfl n hn)
    obtain ⟨zs, m2, _, hz, hzl0, hzl, hg⟩ := DataW.trod_struct Try.underlying35 h0'
    have hz3 : zs.length = 3 := hzl
    match zs, hz3 with
    | [z0, z1, z2], _ =>
      have g0 : DataW.trod enc Try.prog w base spare held m2 3 [c0] = some z0 := hg 0 _ rfl
      have g1 : DataW.trod enc Try.prog w base spare held m2 3 [c1] = some z1 := hg 1 _ rfl
      have g2 : DataW.trod enc Try.prog w base spare held m2 33 [c2] = some z2 := hg 2 _ rfl
      have hw2 : ∀ n ∈ z2.1.weights Try.prog 33, n ≤ reachBytes := fun n hn => hw0 n (by
        have e1 : y0.1 = .agg [z0.1, z1.1, z2.1] := by rw [hz]; rfl
        rw [e1]
        unfold DataW.weights
        rw [Try.underlying35]
        exact DataW.weights_mem_each (j := 2) rfl rfl n hn)
      obtain ⟨a, e0, _, w0⟩ := DataW.trod_int Try.underlying3 g0
      obtain ⟨b, e1, _, w1⟩ := DataW.trod_int Try.underlying3 g1
      obtain ⟨l, v, e2, hs, hall, hsz⟩ := open_rows_sz opE 3 opOk Try.underlying33 (by kernel_rfl) (by omega) hw2 (fun n cs y h _ => elem_opS n cs y h) g2
      rw [show Try.prog.bytesOf 74 = 40 by kernel_rfl] at hsz
      simp only [List.cons.injEq, and_true] at e0 e1 e2 e3
      subst e0 e1 e2 e3
      have := wf_u64 w3
      exact ⟨⟨a, b, c2, l, ts⟩, rfl, ⟨hs, hall, this.1, this.2, w0, w1⟩, by unfold reachBytes at hsz; show l.length ≤ _; omega⟩
theorem open_ents_sz {fuel : Nat} {cs : List Value} {x : DataW H × List MemPlace} (hw : ∀ n ∈ x.1.weights Try.prog 29, n ≤ reachBytes) (h : DataW.trod enc Try.prog w base spare held fuel 29 cs = some x) :
    ∃ (l : List EntT) (v : Value), cs = [v] ∧ SliceOf entE 4 w v l ∧ (∀ p ∈ l, EntOkS w p) ∧ l.length ≤ 2932031007403 := by
  obtain ⟨l, v, h1, h2, h3, h4⟩ := open_rows_sz entE 4 (EntOkS w) Try.underlying29 (by kernel_rfl) (by omega) hw elem_ent_sz h
  rw [show Try.prog.bytesOf 37 = 48 by kernel_rfl] at h4
  exact ⟨l, v, h1, h2, h3, by unfold reachBytes at h4; omega⟩
end

end Go.Proofs.Ytniojcnkjehflaa

/- Stores into a part of a block; boxes of an opaque value. Conditions: none. -/
namespace Go.Proofs.Ytniojcnkjehflaa
open Go.RowKit

section
variable {P : Program} {n : Nat} {m : List (Nat × Value)} {w x w0 : World} {o : Oper} {N : Nat} {T : TypeId} {cs : Array Value} {S : Nat → Prop}
theorem op_storePart {t : TypeId} {p q : Operand} {cells cs' : Array Value} {k : Nat} (ho : o.op = .store t p q) (hp : ev m p = some (.pointer (some ⟨N, k, none⟩))) (hq : ev m q = some (.agg cells)) (h1 : cells.all (·.oneCell') = true) (hi : (P.info? t).map (·.size) = some cells.size)
    (hb : Blk w N T cs) (hk : Nat.ble (k + cells.size) cs.size = true) (he : (cs.toList.take k ++ cells.toList ++ cs.toList.drop (k + cells.size)).toArray = cs') : Op1 P n m o w (fun _ x => Blk x N T cs' ∧ x.heap.size = w.heap.size ∧ w.grownBy x (some N)) := by
  intro a ha K Q hN
  have hk' : k + cells.size ≤ cs.size := by simpa using hk
  have hthere : w.there N k cells.size := fun j hj => ⟨by rw [hb.cell (k := k + j) (v := cs[k + j]'(by omega)) (by rw [Array.getElem?_eq_getElem])]; rfl, hb.frozen _⟩
  refine wp_store_mid t p q ho N k cells (ha.ev hp) (ha.ev hq) hthere hi h1 (hN _ _ ⟨?_, ?_, ?_⟩)
  · have := setCells_blk cells.toList w cs k hb (by simpa using hk')
    simp only [Array.length_toList] at this
    rw [he] at this; exact this
  · have hsz : ∀ (vs : List Value) (k : Nat) (w : World), (w.setCells N k vs).heap.size = w.heap.size := by
      intro vs
      induction vs with
      | nil => intro k w; rfl
      | cons v r ih => intro k w; rw [World.setCells, ih]; simp [World.setCell]
    exact hsz _ _ _
  · have hg : ∀ (vs : List Value) (k : Nat) (w : World), w.grownBy (w.setCells N k vs) (some N) := by
      intro vs
      induction vs with
      | nil => intro k w; exact World.grownBy.refl _ _
      | cons v r ih => intro k w; rw [World.setCells]; exact (grown_setCell w N k v).trans (ih _ _)
    exact hg _ _ _
end
end Go.Proofs.Ytniojcnkjehflaa

/- Package item: Check, Stamped, Last of both; Twins of the document's; how much a list holds. Conditions: none. -/
namespace Go.Proofs.Ytniojcnkjehflaa
open Go.RowKit Go.PlainAid
set_option linter.unusedVariables false


theorem entE_len (e : EntT) : (entE e).length = 4 := rfl
def twN (l : List EntT) (c r : Int) : Int := ((l.countP fun e => e.client == c && e.req == r : Nat) : Int)
theorem twN_snoc (l : List EntT) (y : EntT) (c r : Int) : twN (l ++ [y]) c r = twN l c r + (if y.client = c ∧ y.req = r then 1 else 0) := by
  unfold twN
  rw [List.countP_append]
  by_cases h : y.client = c ∧ y.req = r
  · simp [h.1, h.2]
  · rw [if_neg h]
    have : (y.client == c && y.req == r) = false := by simpa using h
    simp [List.countP_cons, this]
theorem twN_pos (l : List EntT) (c r : Int) : 0 ≤ twN l c r ∧ twN l c r ≤ l.length := by
  unfold twN; have := List.countP_le_length (p := fun e : EntT => e.client == c && e.req == r) (l := l); omega
theorem takeE {α : Type} {l : List α} {i : Nat} {y : α} (h : l[i]? = some y) : l.take (i + 1) = l.take i ++ [y] := by
  rw [List.take_add_one, h]; rfl
theorem tw_step {l : List EntT} {i : Nat} {y : EntT} (h : l[i]? = some y) : (fun b : Int × Int => if b = (y.client, y.req) then twN (l.take i) y.client y.req + 1 else (fun k : Int × Int => twN (l.take i) k.1 k.2) b) = fun k => twN (l.take (i + 1)) k.1 k.2 := by
  funext b
  obtain ⟨b1, b2⟩ := b
  rw [takeE h, twN_snoc]
  by_cases e : (b1, b2) = (y.client, y.req)
  · rw [if_pos e]
    have e1 : b1 = y.client := (Prod.mk.inj e).1
    have e2 : b2 = y.req := (Prod.mk.inj e).2
    subst e1 e2; simp
  · rw [if_neg e, if_neg (fun h => e (Prod.ext h.1.symm h.2.symm))]; simp
def badT (pre : List EntT) (e : EntT) : Bool := match pre.getLast? with
  | none => false
  | some p => decide (e.ts ≠ 0 ∧ (p.ts = 0 ∨ e.ts ≤ p.ts))
def rgF : List EntT → List EntT → Int
  | _, [] => 0
  | pre, e :: r => if chkB e.client e.req e.opl ≠ 0 then chkB e.client e.req e.opl else if 0 < twN pre e.client e.req then 18 else if badT pre e = true then 18 else rgF (pre ++ [e]) r
def rightI (l : List EntT) : Int := rgF [] l
theorem bad_at {l : List EntT} {i j : Nat} {y p : EntT} (hj : j = i - 1) (h0 : 0 < i) (h : l[j]? = some p) : badT (l.take i) y = decide (y.ts ≠ 0 ∧ (p.ts = 0 ∨ y.ts ≤ p.ts)) := by
  have hl : (l.take i).getLast? = some p := by
    obtain ⟨i, rfl⟩ : ∃ k, i = k + 1 := ⟨i - 1, by omega⟩
    have : j = i := by omega
    subst this
    rw [takeE h]; simp
  unfold badT; rw [hl]
/-- How many have timestamps, the last of these. -/
def stN (l : List EntT) : Nat := (l.takeWhile fun e => decide (e.ts ≠ 0)).length
theorem stN_le (l : List EntT) : stN l ≤ l.length := by
  unfold stN; exact (List.takeWhile_sublist _).length_le
theorem stN_stop : ∀ {l : List EntT} {i : Nat} {y : EntT}, (∀ j, j < i → ∀ z, l[j]? = some z → z.ts ≠ 0) → l[i]? = some y → y.ts = 0 → stN l = i
  | [], i, y, _, h, _ => by simp at h
  | e :: l, 0, y, _, h, h0 => by simp at h; subst h; simp [stN, h0]
  | e :: l, i + 1, y, hb, h, h0 => by
    have he : e.ts ≠ 0 := hb 0 (by omega) e (by simp)
    have ih := stN_stop (l := l) (i := i) (fun j hj z hz => hb (j + 1) (by omega) z (by simpa using hz)) (by simpa using h) h0
    unfold stN at ih ⊢
    rw [List.takeWhile_cons, if_pos (by simpa using he), List.length_cons, ih]
theorem stN_end : ∀ {l : List EntT} {i : Nat}, (∀ j, j < i → ∀ z, l[j]? = some z → z.ts ≠ 0) → l.length = i → stN l = i
  | [], i, _, h => by simp at h; subst h; rfl
  | e :: l, 0, _, h => by simp at h
  | e :: l, i + 1, hb, h => by
    have he : e.ts ≠ 0 := hb 0 (by omega) e (by simp)
    have ih := stN_end (l := l) (i := i) (fun j hj z hz => hb (j + 1) (by omega) z (by simpa using hz)) (by simpa using h)
    unfold stN at ih ⊢
    rw [List.takeWhile_cons, if_pos (by simpa using he), List.length_cons, ih]
theorem st_next {l : List EntT} {i : Nat} {y : EntT} (hb : ∀ j, j < i → ∀ z, l[j]? = some z → z.ts ≠ 0) (h : l[i]? = some y) (h0 : ¬ y.ts = 0) : ∀ j, j < i + 1 → ∀ z, l[j]? = some z → z.ts ≠ 0 := by
  intro j hj z hz
  by_cases e : j = i
  · subst e; rw [h] at hz; cases hz; exact h0
  · exact hb j (by omega) z hz
def lastT (l : List EntT) : Int := if stN l = 0 then 0 else (l.getD (stN l - 1) default).ts
theorem lastT_at {l : List EntT} {y : EntT} {j : Nat} (hj : j = stN l - 1) (h : ¬ ((stN l : Nat) : Int) = 0) (hy : l[j]? = some y) : y.ts = lastT l := by
  subst hj
  unfold lastT; rw [if_neg (by omega), List.getD_eq_getElem?_getD, hy]; rfl
def sumN (l : List EntT) : Int := l.foldl (fun n e => n + (e.opl.length : Int)) 0
theorem sumN_snoc (l : List EntT) (y : EntT) : sumN (l ++ [y]) = sumN l + (y.opl.length : Int) := by unfold sumN; rw [List.foldl_append]; rfl
theorem sumN_step {l : List EntT} {i : Nat} {y : EntT} (h : l[i]? = some y) : sumN (l.take (i + 1)) = sumN (l.take i) + (y.opl.length : Int) := by rw [takeE h, sumN_snoc]
theorem sumN_le {w : World} : ∀ (l : List EntT), (∀ z ∈ l, EntOkS w z) → 0 ≤ sumN l ∧ sumN l ≤ 3518437208883 * (l.length : Int) := by
  intro l
  have key : ∀ (l : List EntT) (m : Int), (∀ z ∈ l, EntOkS w z) → m ≤ l.foldl (fun n e => n + (e.opl.length : Int)) m ∧ l.foldl (fun n e => n + (e.opl.length : Int)) m ≤ m + 3518437208883 * (l.length : Int) := by
    intro l
    induction l with
    | nil => intro m _; simp
    | cons e r ih =>
      intro m h
      have h1 := ih (m + (e.opl.length : Int)) (fun z hz => h z (by simp [hz]))
      have h2 := (h e (by simp)).2
      simp only [List.foldl_cons, List.length_cons]
      omega
  intro h
  have := key l 0 h
  unfold sumN; omega
theorem sumN_takes {w : World} {l : List EntT} (h : ∀ z ∈ l, EntOkS w z) (i : Nat) (hi : i ≤ 200) : 0 ≤ sumN (l.take i) ∧ sumN (l.take i) ≤ 703687441776600 := by
  have := sumN_le (l.take i) (fun z hz => h z (List.mem_of_mem_take hz))
  have h2 : (l.take i).length ≤ 200 := by rw [List.length_take]; omega
  omega
def muchN (l : List EntT) : Int := (l.length : Int) + sumN (l.take 200)

set_option maxRecDepth 100000 in
theorem itemStamped_any (v : Value) (l : List EntT) (w : World) (hs : SliceOf entE 4 w v l) (hok : ∀ z ∈ l, EntOk w z) :
    Calls Try.prog 54 #[v] w fun e w' => e = .returned (.int .i64 ((stN l : Nat) : Int)) ∧ Below w.heap.size w w' := by
 have hB0 := Below.refl w.heap.size w
 have hl_hs := sl_len hs
 refine co_enter (n := 19) Try.func54 rfl rfl rfl [(0, v)] rfl (fun a h0 => ?_)
 refine co_seq ?_
 refine co_reg ?_
 refine pk0 (v := .int .i64 0) h0 rfl fun a1 h1 => ?_; clear h0
 refine pl_nil ?_
 refine co_then ?_
 refine co_seq ?_
 refine co_reg ?_
 refine pk0 (v := .int .i64 0) h1 rfl fun a2 h2 => ?_; clear h1
 refine pl_nil ?_
 refine co_then ?_
 refine co_seq ?_
 refine wp_block ?_
 have h3 : Slots 19 [(0, v), (3, .int .i64 0)] _ := h2.sub ⟨rfl, rfl, trivial⟩; clear h2
 refine co_loop (fun mm a x => ∃ (i : Nat), Slots 19 [(0, v), (3, .int .i64 ((i : Nat) : Int))] a ∧ mm = l.length - i ∧ (i ≤ l.length) ∧ (∀ j, j < i → ∀ z, l[j]? = some z → z.ts ≠ 0) ∧ Below w.heap.size w x) (l.length - 0) ?_ ?_
 · exact ⟨0, h3.sub ⟨rfl, (slot_eq rfl (congrArg (Value.int .i64) (by first | rfl | omega))), trivial⟩, rfl, by omega, by first | (intro j hj; omega) | exact st_next (by assumption) (by assumption) (by omega), hB0⟩
 · rintro k4 a5 w6 ⟨i, h5, rfl, hi7, hi8, hB9⟩
   have hz10 := hB9.size
   refine co_seq ?_
   refine co_seq ?_
   refine co_reg ?_
   refine pk0 (v := .int .i64 ((i : Nat) : Int)) h5 rfl fun a11 h11 => ?_; clear h5
   refine pk0 (v := v) h11 rfl fun a12 h12 => ?_; clear h11
   refine pk (v := .int .i64 ((l.length : Nat) : Int)) h12 rfl (rn_len rfl rfl Try.underlying29 (hs.below hB9)) fun a13 h13 => ?_; clear h12
   refine pk0 (v := .bool (decide (((i : Nat) : Int) < ((l.length : Nat) : Int)))) h13 rfl fun a14 h14 => ?_; clear h13
   refine pk0 (v := .bool (decide (((i : Nat) : Int) < ((l.length : Nat) : Int)))) h14 rfl fun a15 h15 => ?_; clear h14
   cases hc16 : (decide (((i : Nat) : Int) < ((l.length : Nat) : Int)))
   ·
    rw [hc16] at h15
    have hp17 : ¬ (((i : Nat) : Int) < ((l.length : Nat) : Int)) := of_decide_eq_false hc16
    clear hc16
    refine psk h15 rfl fun a18 h18 => ?_; clear h15
    refine psk h18 rfl fun a19 h19 => ?_; clear h18
    refine psk h19 rfl fun a20 h20 => ?_; clear h19
    refine psk h20 rfl fun a21 h21 => ?_; clear h20
    refine psk h21 rfl fun a22 h22 => ?_; clear h21
    refine psk h22 rfl fun a23 h23 => ?_; clear h22
    refine pk0 (v := .bool false) h23 rfl fun a24 h24 => ?_; clear h23
    refine pl_nil ?_
    refine co_then ?_
    refine co_false h24 rfl ?_
    refine wp_exit ?_
    refine co_thenX ?_
    refine co_thenX ?_
    refine co_blockX ?_
    refine co_then ?_
    refine co_seq ?_
    refine co_reg ?_
    refine pk0 (v := .int .i64 ((i : Nat) : Int)) h24 rfl fun a25 h25 => ?_; clear h24
    refine pk0 (v := .int .i64 ((i : Nat) : Int)) h25 rfl fun a26 h26 => ?_; clear h25
    refine pl_nil ?_
    refine co_then ?_
    refine wp_ret ?_
    refine co_ret1 h26 rfl rfl ?_
    exact ⟨ret_int (by rw [stN_end (l := l) (i := i) (by assumption) (by omega)]), hB9⟩
   ·
    rw [hc16] at h15
    have hp27 : ((i : Nat) : Int) < ((l.length : Nat) : Int) := of_decide_eq_true hc16
    clear hc16
    refine pk0 (v := v) h15 rfl fun a28 h28 => ?_; clear h15
    refine pk0 (v := .int .i64 ((i : Nat) : Int)) h28 rfl fun a29 h29 => ?_; clear h28
    obtain ⟨y30, hy30⟩ : ∃ z, l[i]? = some z := ⟨_, List.getElem?_eq_getElem (by first | omega | (simp; done) | (simp; omega))⟩
    have oky30 := hok _ (List.mem_of_getElem? hy30)
    have k31 : 0 ≤ y30.ts := oky30.ts0
    have k32 : y30.ts < 18446744073709551616 := oky30.ts1
    refine pk (v := pt (blkOf v) (offOf v + i * 4)) h29 rfl (rn_index rfl rfl rfl Try.underlying29 Try.sizeOf37 (hs.below hB9) (by omega) (by first | omega | (simp; done) | (simp; omega))) fun a33 h33 => ?_; clear h29
    refine pk0 (v := pt (blkOf v) (offOf v + i * 4 + 3)) h33 rfl fun a34 h34 => ?_; clear h33
    refine pk (v := .int .u64 y30.ts) h34 rfl (rn_load1 rfl rfl Try.isAgg23 ((sl_at (hs.below hB9) hy30) 3 _ rfl)) fun a35 h35 => ?_; clear h34
    refine pk0 (v := .bool (y30.ts != 0)) h35 rfl fun a36 h36 => ?_; clear h35
    refine pk0 (v := .bool (y30.ts != 0)) h36 rfl fun a37 h37 => ?_; clear h36
    refine pl_nil ?_
    refine co_then ?_
    cases hc38 : (y30.ts != 0)
    ·
     rw [hc38] at h37
     have hp39 : ¬ (y30.ts ≠ 0) := by first | simpa using hc38 | simpa [and_assoc] using hc38
     clear hc38
     refine co_false h37 rfl ?_
     refine wp_exit ?_
     refine co_thenX ?_
     refine co_thenX ?_
     refine co_blockX ?_
     refine co_then ?_
     refine co_seq ?_
     refine co_reg ?_
     refine pk0 (v := .int .i64 ((i : Nat) : Int)) h37 rfl fun a40 h40 => ?_; clear h37
     refine pk0 (v := .int .i64 ((i : Nat) : Int)) h40 rfl fun a41 h41 => ?_; clear h40
     refine pl_nil ?_
     refine co_then ?_
     refine wp_ret ?_
     refine co_ret1 h41 rfl rfl ?_
     exact ⟨ret_int (by rw [stN_stop (l := l) (i := i) (by assumption) hy30 (by omega)]), hB9⟩
    ·
     rw [hc38] at h37
     have hp42 : y30.ts ≠ 0 := by first | simpa using hc38 | simpa [and_assoc] using hc38
     clear hc38
     refine co_true h37 rfl ?_
     refine wp_skip ?_
     refine co_then ?_
     refine wp_block ?_
     refine co_reg ?_
     refine pk0 (v := .int .i64 ((i : Nat) : Int)) h37 rfl fun a43 h43 => ?_; clear h37
     refine pk (v := .int .i64 ((i + 1 : Nat) : Int)) h43 rfl (rn_arith' rfl rfl rfl rfl rfl rfl (IntWalk.i64_in _ (by omega)) (by omega)) fun a44 h44 => ?_; clear h43
     refine pk0 (v := .int .i64 ((i + 1 : Nat) : Int)) h44 rfl fun a45 h45 => ?_; clear h44
     refine pl_nil ?_
     refine co_blockN ?_
     refine co_then ?_
     refine ⟨(l.length - (i + 1)), by omega, ?_⟩
     exact ⟨i + 1, h45.sub ⟨rfl, rfl, trivial⟩, rfl, by omega, by first | (intro j hj; omega) | exact st_next (by assumption) (by assumption) (by omega), hB9⟩
set_option maxRecDepth 100000 in
theorem ritemStamped_any (v : Value) (l : List EntT) (w : World) (hs : SliceOf entE 4 w v l) (hok : ∀ z ∈ l, EntOk w z) :
    Calls Try.prog 28 #[v] w fun e w' => e = .returned (.int .i64 ((stN l : Nat) : Int)) ∧ Below w.heap.size w w' := by
 have hB0 := Below.refl w.heap.size w
 have hl_hs := sl_len hs
 refine co_enter (n := 19) Try.func28 rfl rfl rfl [(0, v)] rfl (fun a h0 => ?_)
 refine co_seq ?_
 refine co_reg ?_
 refine pk0 (v := .int .i64 0) h0 rfl fun a1 h1 => ?_; clear h0
 refine pl_nil ?_
 refine co_then ?_
 refine co_seq ?_
 refine co_seq ?_
 refine co_reg ?_
 refine pk0 (v := .int .i64 0) h1 rfl fun a2 h2 => ?_; clear h1
 refine pl_nil ?_
 refine co_then ?_
 refine wp_block ?_
 have h3 : Slots 19 [(0, v), (3, .int .i64 0)] _ := h2.sub ⟨rfl, rfl, trivial⟩; clear h2
 refine co_loop (fun mm a x => ∃ (i : Nat), Slots 19 [(0, v), (3, .int .i64 ((i : Nat) : Int))] a ∧ mm = l.length - i ∧ (i ≤ l.length) ∧ (∀ j, j < i → ∀ z, l[j]? = some z → z.ts ≠ 0) ∧ Below w.heap.size w x) (l.length - 0) ?_ ?_
 · exact ⟨0, h3.sub ⟨rfl, (slot_eq rfl (congrArg (Value.int .i64) (by first | rfl | omega))), trivial⟩, rfl, by omega, by first | (intro j hj; omega) | exact st_next (by assumption) (by assumption) (by omega), hB0⟩
 · rintro k4 a5 w6 ⟨i, h5, rfl, hi7, hi8, hB9⟩
   have hz10 := hB9.size
   refine co_seq ?_
   refine co_seq ?_
   refine co_reg ?_
   refine pk0 (v := .int .i64 ((i : Nat) : Int)) h5 rfl fun a11 h11 => ?_; clear h5
   refine pk0 (v := v) h11 rfl fun a12 h12 => ?_; clear h11
   refine pk (v := .int .i64 ((l.length : Nat) : Int)) h12 rfl (rn_len rfl rfl Try.underlying29 (hs.below hB9)) fun a13 h13 => ?_; clear h12
   refine pk0 (v := .bool (decide (((i : Nat) : Int) < ((l.length : Nat) : Int)))) h13 rfl fun a14 h14 => ?_; clear h13
   refine pl_nil ?_
   refine co_then ?_
   cases hc15 : (decide (((i : Nat) : Int) < ((l.length : Nat) : Int)))
   ·
    rw [hc15] at h14
    have hp16 : ¬ (((i : Nat) : Int) < ((l.length : Nat) : Int)) := of_decide_eq_false hc15
    clear hc15
    refine co_false h14 rfl ?_
    refine wp_exit ?_
    refine co_thenX ?_
    refine co_thenX ?_
    refine co_blockX ?_
    refine co_then ?_
    refine co_seq ?_
    refine co_reg ?_
    refine pk0 (v := v) h14 rfl fun a17 h17 => ?_; clear h14
    refine pk (v := .int .i64 ((l.length : Nat) : Int)) h17 rfl (rn_len rfl rfl Try.underlying29 (hs.below hB9)) fun a18 h18 => ?_; clear h17
    refine pk0 (v := .int .i64 ((l.length : Nat) : Int)) h18 rfl fun a19 h19 => ?_; clear h18
    refine pl_nil ?_
    refine co_then ?_
    refine wp_ret ?_
    refine co_ret1 h19 rfl rfl ?_
    exact ⟨ret_int (by rw [stN_end (l := l) (i := i) (by assumption) (by omega)]; omega), hB9⟩
   ·
    rw [hc15] at h14
    have hp20 : ((i : Nat) : Int) < ((l.length : Nat) : Int) := of_decide_eq_true hc15
    clear hc15
    refine co_true h14 rfl ?_
    refine wp_skip ?_
    refine co_then ?_
    refine co_seq ?_
    refine wp_block ?_
    refine co_seq ?_
    refine co_reg ?_
    refine pk0 (v := v) h14 rfl fun a21 h21 => ?_; clear h14
    refine pk0 (v := .int .i64 ((i : Nat) : Int)) h21 rfl fun a22 h22 => ?_; clear h21
    obtain ⟨y23, hy23⟩ : ∃ z, l[i]? = some z := ⟨_, List.getElem?_eq_getElem (by first | omega | (simp; done) | (simp; omega))⟩
    have oky23 := hok _ (List.mem_of_getElem? hy23)
    have k24 : 0 ≤ y23.ts := oky23.ts0
    have k25 : y23.ts < 18446744073709551616 := oky23.ts1
    refine pk (v := pt (blkOf v) (offOf v + i * 4)) h22 rfl (rn_index rfl rfl rfl Try.underlying29 Try.sizeOf37 (hs.below hB9) (by omega) (by first | omega | (simp; done) | (simp; omega))) fun a26 h26 => ?_; clear h22
    refine pk0 (v := pt (blkOf v) (offOf v + i * 4 + 3)) h26 rfl fun a27 h27 => ?_; clear h26
    refine pk (v := .int .u64 y23.ts) h27 rfl (rn_load1 rfl rfl Try.isAgg23 ((sl_at (hs.below hB9) hy23) 3 _ rfl)) fun a28 h28 => ?_; clear h27
    refine pk0 (v := .bool (y23.ts == 0)) h28 rfl fun a29 h29 => ?_; clear h28
    refine pl_nil ?_
    refine co_then ?_
    cases hc30 : (y23.ts == 0)
    ·
     rw [hc30] at h29
     have hp31 : ¬ (y23.ts = 0) := by first | simpa using hc30 | simpa [and_assoc] using hc30
     clear hc30
     refine co_false h29 rfl ?_
     refine wp_skip ?_
     refine co_blockN ?_
     refine co_then ?_
     refine co_reg ?_
     refine pk0 (v := .int .i64 ((i : Nat) : Int)) h29 rfl fun a32 h32 => ?_; clear h29
     refine pk (v := .int .i64 ((i + 1 : Nat) : Int)) h32 rfl (rn_arith' rfl rfl rfl rfl rfl rfl (IntWalk.i64_in _ (by omega)) (by omega)) fun a33 h33 => ?_; clear h32
     refine pk0 (v := .int .i64 ((i + 1 : Nat) : Int)) h33 rfl fun a34 h34 => ?_; clear h33
     refine pl_nil ?_
     refine co_then ?_
     refine ⟨(l.length - (i + 1)), by omega, ?_⟩
     exact ⟨i + 1, h34.sub ⟨rfl, rfl, trivial⟩, rfl, by omega, by first | (intro j hj; omega) | exact st_next (by assumption) (by assumption) (by omega), hB9⟩
    ·
     rw [hc30] at h29
     have hp35 : y23.ts = 0 := by first | simpa using hc30 | simpa [and_assoc] using hc30
     clear hc30
     refine co_true h29 rfl ?_
     refine co_seq ?_
     refine co_reg ?_
     refine pk0 (v := .int .i64 ((i : Nat) : Int)) h29 rfl fun a36 h36 => ?_; clear h29
     refine pk0 (v := .int .i64 ((i : Nat) : Int)) h36 rfl fun a37 h37 => ?_; clear h36
     refine pl_nil ?_
     refine co_then ?_
     refine wp_ret ?_
     refine co_blockR ?_
     refine co_thenR ?_
     refine co_thenR ?_
     refine co_blockR ?_
     refine co_thenR ?_
     refine co_ret1 h37 rfl rfl ?_
     exact ⟨ret_int (by rw [stN_stop (l := l) (i := i) (by assumption) hy23 (by omega)]), hB9⟩
set_option maxRecDepth 100000 in
theorem much_any (v : Value) (l : List EntT) (w : World) (hs : SliceOf entE 4 w v l) (hok : ∀ z ∈ l, EntOkS w z) (hl : l.length ≤ 2932031007403) :
    Calls Try.prog 15 #[v] w fun e w' => e = .returned (.int .i64 (muchN l)) ∧ Below w.heap.size w w' := by
 have hB0 := Below.refl w.heap.size w
 have hl_hs := sl_len hs
 refine co_enter (n := 27) Try.func15 rfl rfl rfl [(0, v)] rfl (fun a h0 => ?_)
 refine co_seq ?_
 refine co_reg ?_
 refine pk0 (v := .int .i64 0) h0 rfl fun a1 h1 => ?_; clear h0
 refine pl_nil ?_
 refine co_then ?_
 refine co_seq ?_
 refine co_reg ?_
 refine pk0 (v := v) h1 rfl fun a2 h2 => ?_; clear h1
 refine pk (v := .int .i64 ((l.length : Nat) : Int)) h2 rfl (rn_len rfl rfl Try.underlying29 hs) fun a3 h3 => ?_; clear h2
 refine pk0 (v := .int .i64 ((l.length : Nat) : Int)) h3 rfl fun a4 h4 => ?_; clear h3
 refine pl_nil ?_
 refine co_then ?_
 refine co_seq ?_
 refine co_seq ?_
 refine co_reg ?_
 refine pk0 (v := .int .i64 0) h4 rfl fun a5 h5 => ?_; clear h4
 refine pl_nil ?_
 refine co_then ?_
 refine wp_block ?_
 have h6 : Slots 27 [(0, v), (3, .int .i64 ((l.length : Nat) : Int)), (4, .int .i64 0)] _ := h5.sub ⟨rfl, rfl, rfl, trivial⟩; clear h5
 refine co_loop (fun mm a x => ∃ (i : Nat), Slots 27 [(0, v), (3, .int .i64 ((l.length : Int) + sumN (l.take i))), (4, .int .i64 ((i : Nat) : Int))] a ∧ mm = l.length - i ∧ (i ≤ l.length) ∧ (i ≤ 200) ∧ Below w.heap.size w x) (l.length - 0) ?_ ?_
 · exact ⟨0, h6.sub ⟨rfl, (slot_eq rfl (congrArg (Value.int .i64) (by first | (simp [sumN]; done) | (rw [hst]; omega)))), (slot_eq rfl (congrArg (Value.int .i64) (by first | rfl | omega))), trivial⟩, rfl, by omega, by omega, hB0⟩
 · rintro k7 a8 w9 ⟨i, h8, rfl, hi10, hi11, hB12⟩
   have hz13 := hB12.size
   have hsm := sumN_takes (l := l) hok i (by omega)
   refine co_seq ?_
   refine co_seq ?_
   refine co_reg ?_
   refine pk0 (v := .int .i64 ((i : Nat) : Int)) h8 rfl fun a14 h14 => ?_; clear h8
   refine pk0 (v := v) h14 rfl fun a15 h15 => ?_; clear h14
   refine pk (v := .int .i64 ((l.length : Nat) : Int)) h15 rfl (rn_len rfl rfl Try.underlying29 (hs.below hB12)) fun a16 h16 => ?_; clear h15
   refine pk0 (v := .bool (decide (((i : Nat) : Int) < ((l.length : Nat) : Int)))) h16 rfl fun a17 h17 => ?_; clear h16
   refine pk0 (v := .bool (decide (((i : Nat) : Int) < ((l.length : Nat) : Int)))) h17 rfl fun a18 h18 => ?_; clear h17
   cases hc19 : (decide (((i : Nat) : Int) < ((l.length : Nat) : Int)))
   ·
    rw [hc19] at h18
    have hp20 : ¬ (((i : Nat) : Int) < ((l.length : Nat) : Int)) := of_decide_eq_false hc19
    clear hc19
    refine psk h18 rfl fun a21 h21 => ?_; clear h18
    refine psk h21 rfl fun a22 h22 => ?_; clear h21
    refine pk0 (v := .bool false) h22 rfl fun a23 h23 => ?_; clear h22
    refine pl_nil ?_
    refine co_then ?_
    refine co_false h23 rfl ?_
    refine wp_exit ?_
    refine co_thenX ?_
    refine co_thenX ?_
    refine co_blockX ?_
    refine co_then ?_
    refine co_seq ?_
    refine co_reg ?_
    refine pk0 (v := .int .i64 ((l.length : Int) + sumN (l.take i))) h23 rfl fun a24 h24 => ?_; clear h23
    refine pk0 (v := .int .i64 ((l.length : Int) + sumN (l.take i))) h24 rfl fun a25 h25 => ?_; clear h24
    refine pl_nil ?_
    refine co_then ?_
    refine wp_ret ?_
    refine co_ret1 h25 rfl rfl ?_
    have htk : l.take i = l.take 200 := by rcases Nat.lt_or_ge i l.length with hq | hq; (have : i = 200 := by omega); (subst this; rfl); (rw [List.take_of_length_le hq, List.take_of_length_le (by omega)])
    exact ⟨ret_int (by unfold muchN; rw [htk]), hB12⟩
   ·
    rw [hc19] at h18
    have hp26 : ((i : Nat) : Int) < ((l.length : Nat) : Int) := of_decide_eq_true hc19
    clear hc19
    refine pk0 (v := .int .i64 ((i : Nat) : Int)) h18 rfl fun a27 h27 => ?_; clear h18
    refine pk0 (v := .bool (decide (((i : Nat) : Int) < 200))) h27 rfl fun a28 h28 => ?_; clear h27
    refine pk0 (v := .bool (decide (((i : Nat) : Int) < 200))) h28 rfl fun a29 h29 => ?_; clear h28
    refine pl_nil ?_
    refine co_then ?_
    cases hc30 : (decide (((i : Nat) : Int) < 200))
    ·
     rw [hc30] at h29
     have hp31 : ¬ (((i : Nat) : Int) < 200) := of_decide_eq_false hc30
     clear hc30
     refine co_false h29 rfl ?_
     refine wp_exit ?_
     refine co_thenX ?_
     refine co_thenX ?_
     refine co_blockX ?_
     refine co_then ?_
     refine co_seq ?_
     refine co_reg ?_
     refine pk0 (v := .int .i64 ((l.length : Int) + sumN (l.take i))) h29 rfl fun a32 h32 => ?_; clear h29
     refine pk0 (v := .int .i64 ((l.length : Int) + sumN (l.take i))) h32 rfl fun a33 h33 => ?_; clear h32
     refine pl_nil ?_
     refine co_then ?_
     refine wp_ret ?_
     refine co_ret1 h33 rfl rfl ?_
     have htk : l.take i = l.take 200 := by rcases Nat.lt_or_ge i l.length with hq | hq; (have : i = 200 := by omega); (subst this; rfl); (rw [List.take_of_length_le hq, List.take_of_length_le (by omega)])
     exact ⟨ret_int (by unfold muchN; rw [htk]), hB12⟩
    ·
     rw [hc30] at h29
     have hp34 : ((i : Nat) : Int) < 200 := of_decide_eq_true hc30
     clear hc30
     refine co_true h29 rfl ?_
     refine wp_skip ?_
     refine co_then ?_
     refine co_seq ?_
     refine wp_block ?_
     refine co_reg ?_
     refine pk0 (v := .int .i64 ((l.length : Int) + sumN (l.take i))) h29 rfl fun a35 h35 => ?_; clear h29
     refine pk0 (v := v) h35 rfl fun a36 h36 => ?_; clear h35
     refine pk0 (v := .int .i64 ((i : Nat) : Int)) h36 rfl fun a37 h37 => ?_; clear h36
     obtain ⟨y38, hy38⟩ : ∃ z, l[i]? = some z := ⟨_, List.getElem?_eq_getElem (by first | omega | (simp; done) | (simp; omega))⟩
     have oky38 := hok _ (List.mem_of_getElem? hy38)
     have k39 : 0 ≤ y38.ts := oky38.1.ts0
     have k40 : y38.ts < 18446744073709551616 := oky38.1.ts1
     have k41 : y38.opl.length ≤ 3518437208883 := oky38.2
     refine pk (v := pt (blkOf v) (offOf v + i * 4)) h37 rfl (rn_index rfl rfl rfl Try.underlying29 Try.sizeOf37 (hs.below hB12) (by omega) (by first | omega | (simp; done) | (simp; omega))) fun a42 h42 => ?_; clear h37
     refine pk0 (v := pt (blkOf v) (offOf v + i * 4)) h42 rfl fun a43 h43 => ?_; clear h42
     refine pk0 (v := pt (blkOf v) (offOf v + i * 4 + 2)) h43 rfl fun a44 h44 => ?_; clear h43
     refine pk (v := y38.ops) h44 rfl (rn_load1 rfl rfl Try.isAgg33 ((sl_at (hs.below hB12) hy38) 2 _ rfl)) fun a45 h45 => ?_; clear h44
     refine pk (v := .int .i64 ((y38.opl.length : Nat) : Int)) h45 rfl (rn_len rfl rfl Try.underlying33 (oky38.1.ops.below hB12)) fun a46 h46 => ?_; clear h45
     refine pk (v := .int .i64 (((l.length : Int) + sumN (l.take i)) + ((y38.opl.length : Nat) : Int))) h46 rfl (rn_arith rfl rfl rfl rfl rfl rfl (IntWalk.i64_in _ (by omega))) fun a47 h47 => ?_; clear h46
     refine pk0 (v := .int .i64 (((l.length : Int) + sumN (l.take i)) + ((y38.opl.length : Nat) : Int))) h47 rfl fun a48 h48 => ?_; clear h47
     refine pl_nil ?_
     refine co_blockN ?_
     refine co_then ?_
     refine co_reg ?_
     refine pk0 (v := .int .i64 ((i : Nat) : Int)) h48 rfl fun a49 h49 => ?_; clear h48
     refine pk (v := .int .i64 ((i + 1 : Nat) : Int)) h49 rfl (rn_arith' rfl rfl rfl rfl rfl rfl (IntWalk.i64_in _ (by omega)) (by omega)) fun a50 h50 => ?_; clear h49
     refine pk0 (v := .int .i64 ((i + 1 : Nat) : Int)) h50 rfl fun a51 h51 => ?_; clear h50
     refine pl_nil ?_
     refine co_then ?_
     refine ⟨(l.length - (i + 1)), by omega, ?_⟩
     have hst := sumN_step hy38
     exact ⟨i + 1, h51.sub ⟨rfl, (slot_eq rfl (congrArg (Value.int .i64) (by first | (simp [sumN]; done) | (rw [hst]; omega)))), rfl, trivial⟩, rfl, by omega, by omega, hB12⟩
end Go.Proofs.Ytniojcnkjehflaa

/- Package rlog: its parts; New, restamp; fresh copies. Conditions: at most 100 entries, 20 operations each. -/
namespace Go.Proofs.Ytniojcnkjehflaa
open Go.RowKit Go.PlainAid
set_option linter.unusedVariables false


def nmE (e : EntT) : Int × Int := (e.client, e.req)
def spotV (i : Int) : Value := .agg #[.int .i64 i]
/-- Where a name stands first. -/
def findN (L : List EntT) (k : Int × Int) : Option Int := Option.map (fun i : Nat => (i : Int)) ((L.map nmE).findIdx? fun q => decide (q = k))
def UqN (L : List EntT) : Prop := (L.map nmE).Nodup
theorem findN_none {L : List EntT} {k : Int × Int} : findN L k = none ↔ ∀ z ∈ L, nmE z ≠ k := by
  unfold findN
  rw [Option.map_eq_none_iff, List.findIdx?_eq_none_iff]
  simp only [List.mem_map, decide_eq_false_iff_not]
  exact ⟨fun h z hz => h _ ⟨z, hz, rfl⟩, fun h q ⟨z, hz, e⟩ => e ▸ h z hz⟩
theorem UqN.at {L : List EntT} (h : UqN L) {i j : Nat} {y z : EntT} (hy : L[i]? = some y) (hz : L[j]? = some z) (e : nmE y = nmE z) : i = j := by
  unfold UqN at h
  obtain ⟨hi, rfl⟩ := List.getElem?_eq_some_iff.1 hy
  obtain ⟨hj, rfl⟩ := List.getElem?_eq_some_iff.1 hz
  exact (List.getElem_inj (xs := L.map nmE) (h₀ := by simpa using hi) (h₁ := by simpa using hj) h).1 (by simpa using e)
theorem UqN.take {L : List EntT} (h : UqN L) (i : Nat) : UqN (L.take i) := by unfold UqN at h ⊢; rw [List.map_take]; exact List.Nodup.sublist (List.take_sublist _ _) h
theorem UqN.snoc {L : List EntT} {e : EntT} (h : UqN L) (hn : findN L (nmE e) = none) : UqN (L ++ [e]) := by
  unfold UqN at h ⊢
  rw [List.map_append, List.nodup_append]
  refine ⟨h, by simp, fun a ha b hb => ?_⟩
  simp at hb ha
  obtain ⟨z, hz, rfl⟩ := ha
  subst hb
  exact findN_none.1 hn z hz
theorem UqN.nm {L L' : List EntT} (h : UqN L) (e : L'.map nmE = L.map nmE) : UqN L' := by unfold UqN at h ⊢; rw [e]; exact h
/-- The i-th has the timestamp ts, those behind it below k have none. -/
def rsL (L : List EntT) (i : Nat) (ts : Int) (k : Nat) : List EntT := L.mapIdx fun j e => if j = i then { e with ts := ts } else if i < j ∧ j < k then { e with ts := 0 } else e
def restF (L : List EntT) (i : Nat) (ts : Int) : List EntT := if (L.getD i default).ts = ts then L else rsL L i ts L.length
theorem rsL_nm (L : List EntT) (i : Nat) (ts : Int) (k : Nat) : (rsL L i ts k).map nmE = L.map nmE := by
  apply List.ext_getElem?
  intro j
  simp only [rsL, List.getElem?_map, List.getElem?_mapIdx]
  cases L[j]? with
  | none => rfl
  | some e => simp only [Option.map_some]; split; rfl; split <;> rfl
theorem restF_same {L : List EntT} {i : Nat} {ts : Int} {y : EntT} (hy : L[i]? = some y) (h : y.ts = ts) : restF L i ts = L := by
  unfold restF; rw [if_pos]; rw [List.getD_eq_getElem?_getD, hy]; exact h
theorem restF_ne {L : List EntT} {i k : Nat} {ts : Int} {y : EntT} (hy : L[i]? = some y) (h : ¬ y.ts = ts) (hk : L.length ≤ k) : rsL L i ts k = restF L i ts := by
  unfold restF; rw [if_neg (by rw [List.getD_eq_getElem?_getD, hy]; exact h)]
  apply List.ext_getElem?
  intro j
  simp only [rsL, List.getElem?_mapIdx]
  cases hj : L[j]? with
  | none => rfl
  | some e =>
    have := (List.getElem?_eq_some_iff.1 hj).1
    simp only [Option.map_some]
    by_cases e1 : j = i
    · rw [if_pos e1, if_pos e1]
    · rw [if_neg e1, if_neg e1]
      by_cases e2 : i < j
      · rw [if_pos ⟨e2, by omega⟩, if_pos ⟨e2, by omega⟩]
      · rw [if_neg (fun q => e2 q.1), if_neg (fun q => e2 q.1)]
theorem rsL_1 {L : List EntT} {i : Nat} {ts : Int} {y : EntT} (hy : L[i]? = some y) : L.set i { y with ts := ts } = rsL L i ts (i + 1) := by
  apply List.ext_getElem?
  intro j
  simp only [rsL, List.getElem?_mapIdx, List.getElem?_set]
  by_cases e1 : i = j
  · subst e1
    have := (List.getElem?_eq_some_iff.1 hy).1
    rw [if_pos rfl, if_pos this, hy]; simp
  · rw [if_neg e1]
    cases hj : L[j]? with
    | none => rfl
    | some e => simp only [Option.map_some]; rw [if_neg (fun q => e1 q.symm), if_neg (by omega)]
/-- An entry whose operations lie in a row of its own. -/
structure EntK (S : Nat → Prop) (n : Nat) (w : World) (e : EntT) : Prop where
  row : w.ownsRow 0 74 3 e.ops e.opl.length (e.opl.flatMap opE)
  ins : InS S n e.ops
  len : e.opl.length ≤ 20
  each : ∀ o ∈ e.opl, opOk o
  ts0 : 0 ≤ e.ts
  ts1 : e.ts < 18446744073709551616
  cl : (Lit.int .i64 e.client).wf = true
  rq : (Lit.int .i64 e.req).wf = true
def EntsK (S : Nat → Prop) (n : Nat) (w : World) (L : List EntT) : Prop := ∀ e ∈ L, EntK S n w e
section
variable {S : Nat → Prop} {n : Nat} {w x : World} {L : List EntT} {e : EntT}
theorem EntK.to (h : EntK S n w e) (hr : x.ownsRow 0 74 3 e.ops e.opl.length (e.opl.flatMap opE)) : EntK S n x e := ⟨hr, h.ins, h.len, h.each, h.ts0, h.ts1, h.cl, h.rq⟩
theorem EntK.ok (h : EntK S n w e) : EntOk w e := ⟨row_sl h.row opE_len, h.each, h.ts0, h.ts1, h.cl, h.rq⟩
theorem EntsK.new (h : EntsK S n w L) (hg : w.grownBy x none) : EntsK S n x L := fun e he => (h e he).to (row_kept_new (h e he).row hg)
theorem EntsK.blk {N : Nat} {T : TypeId} {cs : Array Value} (h : EntsK S n w L) (hb : Blk w N T cs) (hT : 74 ≠ T) (hg : w.grownBy x (some N)) : EntsK S n x L :=
  fun e he => (h e he).to (row_kept_at (h e he).row hg (own_neT (h e he).row hb hT))
theorem EntsK.map {K V : Type} [DecidableEq K] {kv : K → Value} {enc : V → Value} {B c : Nat} {g2 : K → Option V} (h : EntsK S n w L) (hm : MapO kv enc w B g2 c) (hg : w.grownBy x (some B)) : EntsK S n x L :=
  fun e he => (h e he).to (row_kept_at (h e he).row hg (hm.row (h e he).row))
theorem EntsK.row {B sz q : Nat} {T : TypeId} {v : Value} {xs : List Value} (h : EntsK S n w L) (hr : w.ownsRow B T sz v q xs) (hT : 74 ≠ T) (hg : w.grownBy x v.ownBlock) : EntsK S n x L :=
  fun e he => (h e he).to (row_kept_row (h e he).row hr hg hT)
theorem EntsK.take (h : EntsK S n w L) (i : Nat) : EntsK S n w (L.take i) := fun e he => h e (List.mem_of_mem_take he)
theorem EntsK.snoc (h : EntsK S n w L) (he : EntK S n w e) : EntsK S n w (L ++ [e]) := fun z hz => by
  rw [List.mem_append] at hz
  rcases hz with hz | hz
  · exact h z hz
  · simp at hz; subst hz; exact he
theorem EntK.ts (h : EntK S n w e) {t : Int} (ht : 0 ≤ t ∧ t < 18446744073709551616) : EntK S n w { e with ts := t } := ⟨h.row, h.ins, h.len, h.each, ht.1, ht.2, h.cl, h.rq⟩
theorem EntsK.set (h : EntsK S n w L) {i : Nat} {z : EntT} (hz : EntK S n w z) : EntsK S n w (L.set i z) := fun e he => by
  rcases List.mem_or_eq_of_mem_set he with q | q
  · exact h e q
  · exact q ▸ hz
theorem EntsK.at (h : EntsK S n w L) {i : Nat} {y : EntT} (hy : L[i]? = some y) : EntK S n w y := h y (List.mem_of_getElem? hy)
theorem EntsK.eq {L' : List EntT} (h : EntsK S n w L) (e : L = L') : EntsK S n w L' := e ▸ h
end
/-- A log that was made, with all its parts. -/
structure LgP (S : Nat → Prop) (n : Nat) (w : World) (b M : Nat) (u : Value) (L : List EntT) : Prop where
  blk : Blk w b 68 #[.bool true, u, .map (some M)]
  map : ∃ c, MapO arr2K spotV w M (findN L) c
  row : w.ownsRow 0 37 4 u L.length (L.flatMap entE)
  ents : EntsK S n w L
  sb : S b ∨ n ≤ b
  sM : S M ∨ n ≤ M
  su : InS S n u
  uq : UqN L
  len : L.length ≤ 100

end Go.Proofs.Ytniojcnkjehflaa

/- Package rlog: Set. Conditions: at most 100 entries, 20 operations each. -/
namespace Go.Proofs.Ytniojcnkjehflaa
open Go.RowKit Go.PlainAid
set_option linter.unusedVariables false
set_option linter.unusedSimpArgs false


def setE (L : List EntT) (i : Int) (c r : Int) (l : List OpT) (ts : Int) : Int :=
  if i < 0 ∨ (L.length : Int) < i then 1 else if chkB c r l ≠ 0 then chkB c r l else if 100 ≤ i then 6
  else if (findN (L.take i.toNat) (c, r)).isSome = true then 18 else if badT (L.take i.toNat) (EntT.mk c r (.slice none 0 0) l ts) = true then 18 else 0
/-- What the entries are behind Set. -/
def SetR (L : List EntT) (i : Int) (c r : Int) (l : List OpT) (ts : Int) (L' : List EntT) : Prop :=
  (setE L i c r l ts ≠ 0 ∧ L' = L) ∨ (setE L i c r l ts = 0 ∧ (((L[i.toNat]?).map nmE = some (c, r) ∧ L' = restF L i.toNat ts) ∨ (¬ (L[i.toNat]?).map nmE = some (c, r) ∧ ∃ v', L' = L.take i.toNat ++ [EntT.mk c r v' l ts])))
section
variable {L : List EntT} {i c r ts : Int} {l : List OpT} {v : Value} {f : Int}
theorem SetR.same (h : setE L i c r l ts ≠ 0) : SetR L i c r l ts L := .inl ⟨h, rfl⟩
theorem badM_0 {l : List EntT} {i : Nat} {y : EntT} (h : i = 0) : badT (l.take i) y = false := by subst h; simp [badT]
end

end Go.Proofs.Ytniojcnkjehflaa

/- Package rlog: Stamp, Find, Top, Len, Stamped. Conditions: at most 100 entries, 20 operations each. -/
namespace Go.Proofs.Ytniojcnkjehflaa
open Go.RowKit Go.PlainAid
set_option linter.unusedVariables false


def e0 (e : EntT) : EntT := { e with ops := .slice none 0 0 }
def stE (L : List EntT) (i ts : Int) : Int := if i < 0 ∨ (L.length : Int) ≤ i then 1 else if ts = 0 then 5 else if i ≠ ((stN L : Nat) : Int) ∨ ts ≤ lastT L then 18 else 0
def stL (L : List EntT) (i ts : Int) : List EntT := if stE L i ts = 0 then rsL L i.toNat ts (i.toNat + 1) else L
section
variable {L : List EntT} {i ts : Int}
theorem stL_no (h : stE L i ts ≠ 0) : stL L i ts = L := by unfold stL; rw [if_neg h]
theorem stL_ok (h : stE L i ts = 0) {y : EntT} (hy : L[i.toNat]? = some y) : stL L i ts = L.set i.toNat { y with ts := ts } := by unfold stL; rw [if_pos h, rsL_1 hy]
theorem stL_nm : (stL L i ts).map nmE = L.map nmE := by unfold stL; split; exact rsL_nm _ _ _ _; rfl
end
theorem e0_snoc {A B : List EntT} {k : Nat} {y z : EntT} (h : A.map e0 = (B.take k).map e0) (hy : B[k]? = some y) (e : e0 z = e0 y) : (A ++ [z]).map e0 = (B.take (k + 1)).map e0 := by
  rw [takeE hy, List.map_append, List.map_append, h]; simp [e]

end Go.Proofs.Ytniojcnkjehflaa

/- Configurations: members, places. Conditions: none. -/
namespace Go.Proofs.Ytniojcnkjehflaa
open Go.RowKit Go.PlainAid

/-- A member: Id, Serial. -/
abbrev MemT := Int × Int
def memE (m : MemT) : List Value := [.int .i64 m.1, .int .i64 m.2]
def memOk (m : MemT) : Prop := (-9223372036854775808 ≤ m.1 ∧ m.1 ≤ 9223372036854775807) ∧ (-9223372036854775808 ≤ m.2 ∧ m.2 ≤ 9223372036854775807)
structure ConfT where
  ep : Int
  mv : Value
  ms : List MemT
  fl : Int
instance : Inhabited ConfT := ⟨⟨0, .slice none 0 0, [], 0⟩⟩
structure ConfOk (w : World) (c : ConfT) : Prop where
  ms : SliceOf memE 2 w c.mv c.ms
  each : ∀ m ∈ c.ms, memOk m
  e0 : -9223372036854775808 ≤ c.ep
  e1 : c.ep ≤ 9223372036854775807
  f0 : 0 ≤ c.fl
  f1 : c.fl < 18446744073709551616
theorem ConfOk.below {w w' : World} {c : ConfT} (h : ConfOk w c) (hb : Below w.heap.size w w') : ConfOk w' c := ⟨h.ms.below hb, h.each, h.e0, h.e1, h.f0, h.f1⟩
/-- The place of the first member of which P holds. -/
def fndF (P : MemT → Bool) : List MemT → Nat → Int
  | [], _ => -1
  | m :: r, i => if P m then (i : Int) else fndF P r (i + 1)
def fnd (P : MemT → Bool) (l : List MemT) : Int := fndF P l 0
end Go.Proofs.Ytniojcnkjehflaa

/- Package conf and the document's own: what is wrong with a configuration. Conditions: none. -/
namespace Go.Proofs.Ytniojcnkjehflaa
open Go.RowKit Go.PlainAid

def badId (m : MemT) : Prop := m.1 < 0 ∨ 4 ≤ m.1
def badSer (m : MemT) : Prop := m.2 < 1 ∨ 1073741824 < m.2
instance (m : MemT) : Decidable (badId m) := by unfold badId; infer_instance
instance (m : MemT) : Decidable (badSer m) := by unfold badSer; infer_instance
end Go.Proofs.Ytniojcnkjehflaa

/- A range over a text: the call's own place among its bytes. Conditions: the bytes are below 128. -/
namespace Go.Proofs.Ytniojcnkjehflaa
open Go.RowKit Go.PlainAid Go.ChangeMaps
def SIt (w : World) (r : Nat) (s : ByteArray) (pos : Nat) : Prop := w.heap[r]? = some (.stringIter s pos)
section
variable {P : Program} {n : Nat} {m : List (Nat × Value)} {w x : World} {o : Oper} {r pos : Nat} {s : ByteArray} {q : Operand} {t : TypeId}
theorem SIt.lt (h : SIt w r s pos) : r < w.heap.size := (Array.getElem?_eq_some_iff.1 (show w.heap[r]? = _ from h)).1
theorem SIt.kept {row : Option Nat} (h : SIt w r s pos) (hg : w.grownBy x row) (h2 : row ≠ some r) : SIt x r s pos := by
  unfold SIt; rw [hg.block r h.lt (fun e => h2 e.symm)]; exact h
theorem SIt.row {B' : Nat} {T : TypeId} {sz k : Nat} {v : Value} {xs : List Value} (h : SIt w r s pos) (hr : w.ownsRow B' T sz v k xs) : v.ownBlock ≠ some r := by
  intro e
  obtain ⟨_, h2⟩ := hr
  rcases h2 with h2 | ⟨g, cap, cur, hv, hg, hh, _⟩
  · rw [h2.1] at e; simp [Value.ownBlock] at e
  · rw [hv] at e
    simp only [Value.ownBlock, Option.some.injEq] at e
    subst e
    rw [show w.heap[g]? = _ from h] at hh; cases hh
theorem SIt.but {S : Nat → Prop} (h : SIt w r s pos) (hb : But S w x) (hn : ¬ S r) : SIt x r s pos := by
  unfold SIt; rw [hb.block r h.lt hn]; exact h
end
end Go.Proofs.Ytniojcnkjehflaa

/- Package mess: parts, numbers, lists checked. Conditions: none. -/
namespace Go.Proofs.Ytniojcnkjehflaa
open Go.RowKit Go.PlainAid
set_option linter.unusedVariables false


def numL (p : Int) : Prop := p = 101 ∨ p = 115 ∨ p = 113 ∨ p = 110 ∨ p = 109 ∨ p = 112
instance (p : Int) : Decidable (numL p) := by unfold numL; infer_instance
end Go.Proofs.Ytniojcnkjehflaa

/- Entries with up to 100 operations, as rows of one's own; fresh.Batch, Entry, Entries. Conditions: up to 100 entries, 100 operations each. -/
namespace Go.Proofs.Ytniojcnkjehflaa
open Go.RowKit Go.PlainAid
set_option linter.unusedVariables false
set_option linter.unusedSimpArgs false

structure EntH (S : Nat → Prop) (n : Nat) (w : World) (e : EntT) : Prop where
  row : w.ownsRow 0 74 3 e.ops e.opl.length (e.opl.flatMap opE)
  ins : InS S n e.ops
  len : e.opl.length ≤ 100
  each : ∀ o ∈ e.opl, opOk o
  ts0 : 0 ≤ e.ts
  ts1 : e.ts < 18446744073709551616
  cl : (Lit.int .i64 e.client).wf = true
  rq : (Lit.int .i64 e.req).wf = true
def EntsH (S : Nat → Prop) (n : Nat) (w : World) (L : List EntT) : Prop := ∀ e ∈ L, EntH S n w e
section
variable {S : Nat → Prop} {n : Nat} {w x : World} {L : List EntT} {e : EntT}
theorem EntH.to (h : EntH S n w e) (hr : x.ownsRow 0 74 3 e.ops e.opl.length (e.opl.flatMap opE)) : EntH S n x e := ⟨hr, h.ins, h.len, h.each, h.ts0, h.ts1, h.cl, h.rq⟩
theorem EntH.ok (h : EntH S n w e) : EntOk w e := ⟨row_sl h.row opE_len, h.each, h.ts0, h.ts1, h.cl, h.rq⟩
theorem EntsH.new (h : EntsH S n w L) (hg : w.grownBy x none) : EntsH S n x L := fun e he => (h e he).to (row_kept_new (h e he).row hg)
theorem EntsH.blk {N : Nat} {T : TypeId} {cs : Array Value} (h : EntsH S n w L) (hb : Blk w N T cs) (hT : 74 ≠ T) (hg : w.grownBy x (some N)) : EntsH S n x L :=
  fun e he => (h e he).to (row_kept_at (h e he).row hg (own_neT (h e he).row hb hT))
theorem EntsH.map {K V : Type} [DecidableEq K] {kv : K → Value} {enc : V → Value} {B c : Nat} {g2 : K → Option V} (h : EntsH S n w L) (hm : MapO kv enc w B g2 c) (hg : w.grownBy x (some B)) : EntsH S n x L :=
  fun e he => (h e he).to (row_kept_at (h e he).row hg (hm.row (h e he).row))
theorem EntsH.row {B sz q : Nat} {T : TypeId} {v : Value} {xs : List Value} (h : EntsH S n w L) (hr : w.ownsRow B T sz v q xs) (hT : 74 ≠ T) (hg : w.grownBy x v.ownBlock) : EntsH S n x L :=
  fun e he => (h e he).to (row_kept_row (h e he).row hr hg hT)
theorem EntsH.take (h : EntsH S n w L) (i : Nat) : EntsH S n w (L.take i) := fun e he => h e (List.mem_of_mem_take he)
theorem EntsH.snoc (h : EntsH S n w L) (he : EntH S n w e) : EntsH S n w (L ++ [e]) := fun z hz => by
  rw [List.mem_append] at hz
  rcases hz with hz | hz
  · exact h z hz
  · simp at hz; subst hz; exact he
theorem EntH.ts (h : EntH S n w e) {t : Int} (ht : 0 ≤ t ∧ t < 18446744073709551616) : EntH S n w { e with ts := t } := ⟨h.row, h.ins, h.len, h.each, ht.1, ht.2, h.cl, h.rq⟩
theorem EntsH.set (h : EntsH S n w L) {i : Nat} {z : EntT} (hz : EntH S n w z) : EntsH S n w (L.set i z) := fun e he => by
  rcases List.mem_or_eq_of_mem_set he with q | q
  · exact h e q
  · exact q ▸ hz
theorem EntsH.at (h : EntsH S n w L) {i : Nat} {y : EntT} (hy : L[i]? = some y) : EntH S n w y := h y (List.mem_of_getElem? hy)
theorem EntsH.eq {L' : List EntT} (h : EntsH S n w L) (e : L = L') : EntsH S n w L' := e ▸ h
end

theorem entsH_got {S : Nat → Prop} {n : Nat} {w : World} {L : List EntT} (h : EntsH S n w L) : ∀ z ∈ L, EntOk w z := fun z hz => (h z hz).ok
def mxI (a b : Int) : Int := if a < b then b else a
def mnI (a b : Int) : Int := if b < a then b else a
theorem mxI_p (a b : Int) : mxI a b ≥ a ∧ mxI a b ≥ b ∧ (mxI a b = a ∨ mxI a b = b) := by unfold mxI; split <;> omega
theorem mnI_p (a b : Int) : mnI a b ≤ a ∧ mnI a b ≤ b ∧ (mnI a b = a ∨ mnI a b = b) := by unfold mnI; split <;> omega
theorem co_unroll {P : Program} {c : Code} {Q : Exit → Act → World → Prop} {n : Nat} {a : Act} {w : World} (h : c.wp P (Exit.then (Code.rounds P c Q n) Q) a w) : Code.rounds P c Q (n + 1) a w := h

set_option maxRecDepth 100000 in
theorem cloneH_any (v : Value) (l : List OpT) (w : World) (hs : SliceOf opE 3 w v l) (hlen : l.length ≤ 100) :
    Calls Try.prog 76 #[v] w fun e w' => ∃ (u : Value), e = .returned (u) ∧ w'.ownsRow w.heap.size 74 3 u l.length (l.flatMap opE) ∧ Below w.heap.size w w' := by
 have hB0 := Below.refl w.heap.size w
 have hl_hs := sl_len hs
 have hs' := hs; obtain ⟨ao, cap, hv, _, _, h3, _⟩ := hs'; subst hv; rcases ao with _ | ad
 · obtain ⟨hl0, hc0⟩ := h3 rfl; obtain rfl : l = [] := List.eq_nil_of_length_eq_zero hl0; subst hc0
   refine co_enter (n := 8) Try.func76 rfl rfl rfl [(0, .slice none 0 0)] rfl (fun a h0 => ?_)
   refine co_seq ?_
   refine co_reg ?_
   refine pk0 (v := .slice none 0 0) h0 rfl fun a1 h1 => ?_; clear h0
   refine pl_nil ?_
   refine co_then ?_
   refine co_seq ?_
   refine co_seq ?_
   refine co_reg ?_
   refine pk0 (v := .slice none 0 0) h1 rfl fun a2 h2 => ?_; clear h1
   refine pk0 (v := .bool true) h2 rfl fun a3 h3 => ?_; clear h2
   refine pl_nil ?_
   refine co_then ?_
   refine co_true h3 rfl ?_
   refine co_seq ?_
   refine co_reg ?_
   refine pk0 (v := .slice none 0 0) h3 rfl fun a4 h4 => ?_; clear h3
   refine pl_nil ?_
   refine co_then ?_
   refine wp_ret ?_
   refine co_thenR ?_
   refine co_ret1 h4 rfl rfl ?_
   exact ⟨_, rfl, (row_nilL _ _ _ _ _), hB0⟩
 · skip
   refine co_enter (n := 8) Try.func76 rfl rfl rfl [(0, .slice (some ad) l.length cap)] rfl (fun a h0 => ?_)
   refine co_seq ?_
   refine co_reg ?_
   refine pk0 (v := .slice none 0 0) h0 rfl fun a5 h5 => ?_; clear h0
   refine pl_nil ?_
   refine co_then ?_
   refine co_seq ?_
   refine co_seq ?_
   refine co_reg ?_
   refine pk0 (v := .slice (some ad) l.length cap) h5 rfl fun a6 h6 => ?_; clear h5
   refine pk0 (v := .bool false) h6 rfl fun a7 h7 => ?_; clear h6
   refine pl_nil ?_
   refine co_then ?_
   refine co_false h7 rfl ?_
   refine wp_skip ?_
   refine co_then ?_
   refine co_seq ?_
   refine co_reg ?_
   refine pw h7 rfl (op_new (v := fun N => .slice (some ⟨N, 0, none⟩) 0 0) (T := 74) (cs := #[]) (by kernel_rfl) (by kernel_rfl) (by kernel_rfl)) ?_; clear h7
   rintro _ w9 a8 ⟨N10, rfl, hN13, hz14, hk12, hg11⟩ h8
   have hz15 := hg11.size
   try dsimp only at h8
   refine pk0 (v := .slice (some ad) l.length cap) h8 rfl fun a16 h16 => ?_; clear h8
   have hr19 := row_of_blkL hk12 (Nat.le_refl _) 3 opE
   have hB24 := hb_new hB0 hg11
   refine pw h16 rfl (op_appendSrc rfl N10 74 (z := .agg #[.string (⟨#[]⟩), .string (⟨#[]⟩), .bool false]) (size := 3) (bytes := 40) Try.underlying33 (by kernel_rfl) rfl rfl rfl hr19 rfl (hs.below hB24) (fun y hy => ⟨opE_len y, opE_one y⟩) (by first | omega | (simp only [List.length_nil, List.length_append, List.length_cons, List.length_take, List.length_drop]; omega)) (by first | omega | (simp only [List.length_nil, List.length_append, List.length_cons, List.length_take, List.length_drop]; omega)) (by omega)) ?_; clear h16
   rintro v20 w18 a17 ⟨hr21, hg22⟩ h17
   have hr21' : w18.ownsRow N10 74 3 v20 l.length (l.flatMap opE) := row_app (l := []) hr21; clear hr21
   have hz25 := hg22.size
   refine pk0 (v := v20) h17 rfl fun a26 h26 => ?_; clear h17
   refine pl_nil ?_
   refine co_then ?_
   refine wp_ret ?_
   refine co_ret1 h26 rfl rfl ?_
   have hB27 := hb_row hB24 hr19 (by omega) hg22
   exact ⟨_, rfl, (row_lows hr21' (by omega)), hB27⟩
set_option maxRecDepth 100000 in
theorem freshBatchH_any (c : Int) (r : Int) (v : Value) (l : List OpT) (w : World) (hs : SliceOf opE 3 w v l) (hlen : l.length ≤ 100) :
    Calls Try.prog 67 #[.agg #[.int .i64 c, .int .i64 r, v]] w fun e w' => ∃ (u : Value), e = .returned (.agg #[.int .i64 c, .int .i64 r, u]) ∧ w'.ownsRow w.heap.size 74 3 u l.length (l.flatMap opE) ∧ Below w.heap.size w w' := by
 have hB0 := Below.refl w.heap.size w
 have hl_hs := sl_len hs
 refine co_enter (n := 8) Try.func67 rfl rfl rfl [(0, .agg #[.int .i64 c, .int .i64 r, v])] rfl (fun a h0 => ?_)
 refine co_seq ?_
 refine co_reg ?_
 refine pw h0 rfl (op_new (v := fun N => pt N 0) (T := 35) (cs := #[.int .i64 c, .int .i64 r, v]) (by kernel_rfl) (by kernel_rfl) (by kernel_rfl)) ?_; clear h0
 rintro _ w2 a1 ⟨N3, rfl, hN6, hz7, hk5, hg4⟩ h1
 have hz8 := hg4.size
 try dsimp only at h1
 refine pw h1 rfl (op_new (v := fun N => pt N 0) (T := 35) (cs := #[.int .i64 0, .int .i64 0, .slice none 0 0]) (by kernel_rfl) (by kernel_rfl) (by kernel_rfl)) ?_; clear h1
 rintro _ w10 a9 ⟨N11, rfl, hN14, hz15, hk13, hg12⟩ h9
 have hz16 := hg12.size
 try dsimp only at h9
 refine pl_nil ?_
 refine co_then ?_
 refine co_seq ?_
 refine co_reg ?_
 refine pk0 (v := pt N3 2) h9 rfl fun a17 h17 => ?_; clear h9
 have hk18 := hk5.kept hg12 (by simp)
 refine pk (v := v) h17 rfl (rn_load1 rfl rfl Try.isAgg33 (hk18.cell rfl)) fun a19 h19 => ?_; clear h17
 have hB22 := hb_new hB0 hg4
 have hB23 := hb_new hB22 hg12
 refine pw h19 rfl (op_call (args := #[v]) (R := fun res xw => ∃ u : Value, res = u ∧ xw.ownsRow w10.heap.size 74 3 u l.length (l.flatMap opE) ∧ Below w10.heap.size w10 xw) rfl rfl rfl (by kernel_rfl) (by kernel_rfl) (Try.call76 _ _) (cloneH_any v l w10 (hs.below hB23) (by first | omega | (simp; done) | (simp; omega))) (by rintro e x ⟨u, rfl, hq25, hb26⟩; exact ⟨_, rfl, ⟨u, rfl, hq25, hb26⟩⟩)) ?_; clear h19
 rintro u24 w21 a20 ⟨_, rfl, hq25, hb26⟩ h20
 have hz27 := hb26.size
 have hl28 := sl_len (row_sl hq25 opE_len)
 refine pk0 (v := pt N3 2) h20 rfl fun a29 h29 => ?_; clear h20
 have hk35 := hk18.below hb26
 refine pwD h29 rfl (op_store1 rfl rfl rfl (row_one hq25) Try.sizeOf33 hk35 rfl) ?_; clear h29
 rintro _ w31 a30 ⟨hk32, hz33, hg34⟩ h30
 have hk32' : Blk w31 N3 35 #[.int .i64 c, .int .i64 r, u24] := hk32; clear hk32
 have hz36 := hg34.size
 refine pl_nil ?_
 refine co_then ?_
 refine co_seq ?_
 refine co_reg ?_
 refine pk (v := .agg #[.int .i64 c, .int .i64 r, u24]) h30 rfl (rn_loadN rfl rfl Try.underlying35 rfl (by kernel_rfl) hk32'.all) fun a37 h37 => ?_; clear h30
 have hr43 := row_kept_at hq25 hg34 (row_ne_lt hq25 (by omega))
 have hk44 := hk13.below hb26
 have hk45 := hk44.kept hg34 (by simp; omega)
 refine pwD h37 rfl (op_storeN rfl rfl rfl (all_cons rfl (all_cons rfl (all_cons (row_one hr43) all_nil))) (by kernel_rfl) hk45 rfl) ?_; clear h37
 rintro _ w39 a38 ⟨hk40, hz41, hg42⟩ h38
 have hk40' : Blk w39 N11 35 #[.int .i64 c, .int .i64 r, u24] := hk40; clear hk40
 have hz46 := hg42.size
 refine pl_nil ?_
 refine co_then ?_
 refine wp_ret ?_
 refine co_retC (Q := fun _ _ _ => True) h38 rfl rfl hk40' Try.underlying35 rfl (by kernel_rfl) ?_
 have hr47 := row_kept_at hr43 hg42 (row_ne_lt hr43 (by omega))
 have hB48 := hb_call hB23 hb26
 have hB49 := hb_at hB48 hg34 (by omega)
 have hB50 := hb_at hB49 hg42 (by omega)
 exact ⟨_, rfl, (row_lows hr47 (by omega)), hB50⟩
set_option maxRecDepth 100000 in
theorem freshEntryH_any (c : Int) (r : Int) (v : Value) (l : List OpT) (ts : Int) (w : World) (hs : SliceOf opE 3 w v l) (hlen : l.length ≤ 100) :
    Calls Try.prog 48 #[.agg #[.int .i64 c, .int .i64 r, v, .int .u64 ts]] w fun e w' => ∃ (u : Value), e = .returned (.agg #[.int .i64 c, .int .i64 r, u, .int .u64 ts]) ∧ w'.ownsRow w.heap.size 74 3 u l.length (l.flatMap opE) ∧ Below w.heap.size w w' := by
 have hB0 := Below.refl w.heap.size w
 have hl_hs := sl_len hs
 refine co_enter (n := 8) Try.func48 rfl rfl rfl [(0, .agg #[.int .i64 c, .int .i64 r, v, .int .u64 ts])] rfl (fun a h0 => ?_)
 refine co_seq ?_
 refine co_reg ?_
 refine pw h0 rfl (op_new (v := fun N => pt N 0) (T := 37) (cs := #[.int .i64 c, .int .i64 r, v, .int .u64 ts]) (by kernel_rfl) (by kernel_rfl) (by kernel_rfl)) ?_; clear h0
 rintro _ w2 a1 ⟨N3, rfl, hN6, hz7, hk5, hg4⟩ h1
 have hz8 := hg4.size
 try dsimp only at h1
 refine pw h1 rfl (op_new (v := fun N => pt N 0) (T := 37) (cs := #[.int .i64 0, .int .i64 0, .slice none 0 0, .int .u64 0]) (by kernel_rfl) (by kernel_rfl) (by kernel_rfl)) ?_; clear h1
 rintro _ w10 a9 ⟨N11, rfl, hN14, hz15, hk13, hg12⟩ h9
 have hz16 := hg12.size
 try dsimp only at h9
 refine pl_nil ?_
 refine co_then ?_
 refine co_seq ?_
 refine co_reg ?_
 refine pk0 (v := pt N3 0) h9 rfl fun a17 h17 => ?_; clear h9
 have hk18 := hk5.kept hg12 (by simp)
 refine pk (v := .agg #[.int .i64 c, .int .i64 r, v]) h17 rfl (rn_loadN rfl rfl Try.underlying35 rfl (by kernel_rfl) (blk_part hk18 0 (by rfl))) fun a19 h19 => ?_; clear h17
 have hB22 := hb_new hB0 hg4
 have hB23 := hb_new hB22 hg12
 refine pw h19 rfl (op_call (args := #[.agg #[.int .i64 c, .int .i64 r, v]]) (R := fun res xw => ∃ u : Value, res = .agg #[.int .i64 c, .int .i64 r, u] ∧ xw.ownsRow w10.heap.size 74 3 u l.length (l.flatMap opE) ∧ Below w10.heap.size w10 xw) rfl rfl rfl (by kernel_rfl) (by kernel_rfl) (Try.call67 _ _) (freshBatchH_any c r v l w10 (hs.below hB23) (by first | omega | (simp; done) | (simp; omega))) (by rintro e x ⟨u, rfl, hq25, hb26⟩; exact ⟨_, rfl, ⟨u, rfl, hq25, hb26⟩⟩)) ?_; clear h19
 rintro _ w21 a20 ⟨u24, rfl, hq25, hb26⟩ h20
 have hz27 := hb26.size
 have hl28 := sl_len (row_sl hq25 opE_len)
 refine pk0 (v := pt N3 0) h20 rfl fun a29 h29 => ?_; clear h20
 have hk35 := hk18.below hb26
 refine pwD h29 rfl (op_storePart (k := 0) (cs' := #[.int .i64 c, .int .i64 r, u24, .int .u64 ts]) rfl rfl rfl (all_cons rfl (all_cons rfl (all_cons (row_one hq25) all_nil))) (by kernel_rfl) hk35 rfl rfl) ?_; clear h29
 rintro _ w31 a30 ⟨hk32, hz33, hg34⟩ h30
 have hk32' : Blk w31 N3 37 #[.int .i64 c, .int .i64 r, u24, .int .u64 ts] := hk32; clear hk32
 have hz36 := hg34.size
 refine pl_nil ?_
 refine co_then ?_
 refine co_seq ?_
 refine co_reg ?_
 refine pk (v := .agg #[.int .i64 c, .int .i64 r, u24, .int .u64 ts]) h30 rfl (rn_loadN rfl rfl Try.underlying37 rfl (by kernel_rfl) hk32'.all) fun a37 h37 => ?_; clear h30
 have hr43 := row_kept_at hq25 hg34 (row_ne_lt hq25 (by omega))
 have hk44 := hk13.below hb26
 have hk45 := hk44.kept hg34 (by simp; omega)
 refine pwD h37 rfl (op_storeN rfl rfl rfl (all_cons rfl (all_cons rfl (all_cons (row_one hr43) (all_cons rfl all_nil)))) (by kernel_rfl) hk45 rfl) ?_; clear h37
 rintro _ w39 a38 ⟨hk40, hz41, hg42⟩ h38
 have hk40' : Blk w39 N11 37 #[.int .i64 c, .int .i64 r, u24, .int .u64 ts] := hk40; clear hk40
 have hz46 := hg42.size
 refine pl_nil ?_
 refine co_then ?_
 refine wp_ret ?_
 refine co_retC (Q := fun _ _ _ => True) h38 rfl rfl hk40' Try.underlying37 rfl (by kernel_rfl) ?_
 have hr47 := row_kept_at hr43 hg42 (row_ne_lt hr43 (by omega))
 have hB48 := hb_call hB23 hb26
 have hB49 := hb_at hB48 hg34 (by omega)
 have hB50 := hb_at hB49 hg42 (by omega)
 exact ⟨_, rfl, (row_lows hr47 (by omega)), hB50⟩
set_option maxRecDepth 100000 in
theorem freshEntriesH_any (v : Value) (l : List EntT) (w : World) (hs : SliceOf entE 4 w v l) (hok : ∀ z ∈ l, EntOk w z) (hl20 : ∀ z ∈ l, z.opl.length ≤ 100) (hlen : l.length ≤ 100) :
    Calls Try.prog 40 #[v] w fun e w' => ∃ (L2 : List EntT) (u : Value), e = .returned (u) ∧ w'.ownsRow w.heap.size 37 4 u L2.length (L2.flatMap entE) ∧ EntsH (fun _ => False) w.heap.size w' L2 ∧ L2.map e0 = l.map e0 ∧ Below w.heap.size w w' := by
 have hB0 := Below.refl w.heap.size w
 have hl_hs := sl_len hs
 refine co_enter (n := 22) Try.func40 rfl rfl rfl [(0, v)] rfl (fun a h0 => ?_)
 refine co_seq ?_
 refine co_reg ?_
 refine pk0 (v := .slice none 0 0) h0 rfl fun a1 h1 => ?_; clear h0
 refine pl_nil ?_
 refine co_then ?_
 refine co_seq ?_
 refine co_reg ?_
 refine pk0 (v := v) h1 rfl fun a2 h2 => ?_; clear h1
 refine pk (v := .int .i64 ((l.length : Nat) : Int)) h2 rfl (rn_len rfl rfl Try.underlying29 hs) fun a3 h3 => ?_; clear h2
 refine pw h3 rfl (op_makeOwn (base := w.heap.size) (enc := entE) (k := l.length) (by_ := 48) (z := .agg #[.int .i64 0, .int .i64 0, .slice none 0 0, .int .u64 0]) (size := 4) rfl rfl rfl Try.underlying29 (by kernel_rfl) (by omega) (by unfold maxLen; omega) (Nat.le_refl _)) ?_; clear h3
 rintro _ w5 a4 ⟨N6, rfl, hN7, hr8, hg9⟩ h4
 have hz10 := hg9.size
 refine pk0 (v := .slice (some ⟨N6, 0, none⟩) 0 l.length) h4 rfl fun a11 h11 => ?_; clear h4
 refine pl_nil ?_
 refine co_then ?_
 refine co_seq ?_
 refine co_seq ?_
 refine co_reg ?_
 refine pk0 (v := v) h11 rfl fun a12 h12 => ?_; clear h11
 have hB13 := hb_new hB0 hg9
 refine pk (v := .int .i64 ((l.length : Nat) : Int)) h12 rfl (rn_len rfl rfl Try.underlying29 (hs.below hB13)) fun a14 h14 => ?_; clear h12
 refine pk0 (v := .int .i64 0) h14 rfl fun a15 h15 => ?_; clear h14
 refine pl_nil ?_
 refine co_then ?_
 refine wp_block ?_
 have h16 : Slots 22 [(3, .slice (some ⟨N6, 0, none⟩) 0 l.length), (9, v), (10, .int .i64 ((l.length : Nat) : Int)), (11, .int .i64 0)] _ := h15.sub ⟨rfl, rfl, rfl, rfl, trivial⟩; clear h15
 refine co_loop (fun mm a x => ∃ (k : Nat) (u1 : Value) (Lk : List EntT), Slots 22 [(3, u1), (9, v), (10, .int .i64 ((l.length : Nat) : Int)), (11, .int .i64 ((k : Nat) : Int))] a ∧ mm = l.length - k ∧ (k ≤ l.length) ∧ (Lk.map e0 = (l.take k).map e0) ∧ x.ownsRow w.heap.size 37 4 u1 Lk.length (Lk.flatMap entE) ∧ EntsH (fun _ => False) w.heap.size x Lk ∧ Below w.heap.size w x) (l.length - 0) ?_ ?_
 · exact ⟨0, (.slice (some ⟨N6, 0, none⟩) 0 l.length), [], h16.sub ⟨rfl, rfl, rfl, (slot_eq rfl (congrArg (Value.int .i64) (by first | rfl | omega))), trivial⟩, rfl, by omega, by first | rfl | exact he0, (row_eq hr8 (rfl)), (fun e he => by cases he), hB13⟩
 · rintro k17 a18 w19 ⟨k, u1, Lk, h18, rfl, hi20, hi21, hf22, hf23, hB24⟩
   have hz25 := hB24.size
   have hLkl : Lk.length = k := by have hq := congrArg List.length (by assumption : Lk.map e0 = (l.take k).map e0); rw [List.length_map, List.length_map, List.length_take] at hq; omega
   refine co_seq ?_
   refine co_reg ?_
   refine pk0 (v := .bool (decide (((k : Nat) : Int) < ((l.length : Nat) : Int)))) h18 rfl fun a26 h26 => ?_; clear h18
   refine pl_nil ?_
   refine co_then ?_
   refine co_seq ?_
   cases hc27 : (decide (((k : Nat) : Int) < ((l.length : Nat) : Int)))
   ·
    rw [hc27] at h26
    have hp28 : ¬ (((k : Nat) : Int) < ((l.length : Nat) : Int)) := of_decide_eq_false hc27
    clear hc27
    refine co_false h26 rfl ?_
    refine wp_exit ?_
    refine co_thenX ?_
    refine co_thenX ?_
    refine co_blockX ?_
    refine co_then ?_
    refine co_seq ?_
    refine co_reg ?_
    refine pk0 (v := u1) h26 rfl fun a29 h29 => ?_; clear h26
    refine pk0 (v := u1) h29 rfl fun a30 h30 => ?_; clear h29
    refine pl_nil ?_
    refine co_then ?_
    refine wp_ret ?_
    refine co_ret1 h30 rfl rfl ?_
    exact ⟨_, _, rfl, (row_lows hf22 (by omega)), hf23, by have hq := (by assumption : Lk.map e0 = (l.take k).map e0); rwa [List.take_of_length_le (by omega)] at hq, hB24⟩
   ·
    rw [hc27] at h26
    have hp31 : ((k : Nat) : Int) < ((l.length : Nat) : Int) := of_decide_eq_true hc27
    clear hc27
    refine co_true h26 rfl ?_
    refine wp_skip ?_
    refine co_then ?_
    refine co_seq ?_
    refine wp_block ?_
    refine co_seq ?_
    refine co_reg ?_
    obtain ⟨y32, hy32⟩ : ∃ z, l[k]? = some z := ⟨_, List.getElem?_eq_getElem (by first | omega | (simp; done) | (simp; omega))⟩
    have oky32 := hok _ (List.mem_of_getElem? hy32)
    have k33 : 0 ≤ y32.ts := oky32.ts0
    have k34 : y32.ts < 18446744073709551616 := oky32.ts1
    have h20y32 := hl20 y32 (List.mem_of_getElem? hy32)
    refine pk (v := pt (blkOf v) (offOf v + k * 4)) h26 rfl (rn_index rfl rfl rfl Try.underlying29 Try.sizeOf37 (hs.below hB24) (by omega) (by first | omega | (simp; done) | (simp; omega))) fun a35 h35 => ?_; clear h26
    refine pk (v := .agg #[.int .i64 y32.client, .int .i64 y32.req, y32.ops, .int .u64 y32.ts]) h35 rfl (rn_loadN rfl rfl Try.underlying37 rfl (by kernel_rfl) (sl_at (hs.below hB24) hy32)) fun a36 h36 => ?_; clear h35
    refine pw h36 rfl (op_new (v := fun N => pt N 0) (T := 37) (cs := #[.int .i64 0, .int .i64 0, .slice none 0 0, .int .u64 0]) (by kernel_rfl) (by kernel_rfl) (by kernel_rfl)) ?_; clear h36
    rintro _ w38 a37 ⟨N39, rfl, hN42, hz43, hk41, hg40⟩ h37
    have ha44 := row_fresh hf22 hN42
    have hz45 := hg40.size
    try dsimp only at h37
    have hB51 := hb_new hB24 hg40
    refine pwD h37 rfl (op_storeN rfl rfl rfl (all_cons rfl (all_cons rfl (all_cons (sl_one (oky32.ops.below hB51)) (all_cons rfl all_nil)))) (by kernel_rfl) hk41 rfl) ?_; clear h37
    rintro _ w47 a46 ⟨hk48, hz49, hg50⟩ h46
    have hk48' : Blk w47 N39 37 #[.int .i64 y32.client, .int .i64 y32.req, y32.ops, .int .u64 y32.ts] := hk48; clear hk48
    have hz52 := hg50.size
    refine pl_nil ?_
    refine co_then ?_
    refine co_reg ?_
    refine pk0 (v := u1) h46 rfl fun a53 h53 => ?_; clear h46
    refine pk (v := .agg #[.int .i64 y32.client, .int .i64 y32.req, y32.ops, .int .u64 y32.ts]) h53 rfl (rn_loadN rfl rfl Try.underlying37 rfl (by kernel_rfl) hk48'.all) fun a54 h54 => ?_; clear h53
    have hB57 := hb_at hB51 hg50 (by omega)
    refine pw h54 rfl (op_call (args := #[.agg #[.int .i64 y32.client, .int .i64 y32.req, y32.ops, .int .u64 y32.ts]]) (R := fun res xw => ∃ u : Value, res = .agg #[.int .i64 y32.client, .int .i64 y32.req, u, .int .u64 y32.ts] ∧ xw.ownsRow w47.heap.size 74 3 u y32.opl.length (y32.opl.flatMap opE) ∧ Below w47.heap.size w47 xw) rfl rfl rfl (by kernel_rfl) (by kernel_rfl) (Try.call48 _ _) (freshEntryH_any y32.client y32.req y32.ops y32.opl y32.ts w47 (oky32.ops.below hB57) (by first | omega | (simp; done) | (simp; omega))) (by rintro e x ⟨u, rfl, hq59, hb60⟩; exact ⟨_, rfl, ⟨u, rfl, hq59, hb60⟩⟩)) ?_; clear h54
    rintro _ w56 a55 ⟨u58, rfl, hq59, hb60⟩ h55
    have hz61 := hb60.size
    have hl62 := sl_len (row_sl hq59 opE_len)
    refine pw h55 rfl (op_new (v := fun N => .slice (some ⟨N, 0, none⟩) 1 1) (T := 37) (cs := #[.int .i64 y32.client, .int .i64 y32.req, u58, .int .u64 y32.ts]) (by kernel_rfl) (by kernel_rfl) (by kernel_rfl)) ?_; clear h55
    rintro _ w64 a63 ⟨N65, rfl, hN68, hz69, hk67, hg66⟩ h63
    have hr71 := row_kept_new hf22 hg40
    have hr72 := row_kept_at hr71 hg50 (ha44)
    have hr73 := row_kept_new hr72 (below_grown hb60)
    have ha70 := row_fresh hr73 hN68
    have ha74 := row_fresh hq59 hN68
    have hz75 := hg66.size
    try dsimp only at h63
    have hr82 := row_kept_new hr73 hg66
    have hr83 := row_kept_new hq59 hg66
    refine pw h63 rfl (op_append rfl w.heap.size 37 (z := .agg #[.int .i64 0, .int .i64 0, .slice none 0 0, .int .u64 0]) (size := 4) (bytes := 48) Try.underlying29 (by kernel_rfl) rfl rfl rfl hr82 rfl hk67 rfl (all_cons rfl (all_cons rfl (all_cons (row_one hr83) (all_cons rfl all_nil)))) (by first | omega | (simp only [List.length_nil, List.length_append, List.length_cons, List.length_take, List.length_drop]; omega)) (by first | omega | (simp only [List.length_nil, List.length_append, List.length_cons, List.length_take, List.length_drop]; omega)) (by omega)) ?_; clear h63
    rintro v78 w77 a76 ⟨hr79, hg80⟩ h76
    have hr79' : w77.ownsRow w.heap.size 37 4 v78 ((Lk ++ [(EntT.mk y32.client y32.req u58 y32.opl y32.ts)]).length) ((Lk ++ [(EntT.mk y32.client y32.req u58 y32.opl y32.ts)]).flatMap entE) := row_push (y := (EntT.mk y32.client y32.req u58 y32.opl y32.ts)) hr79 rfl rfl; clear hr79
    have hz84 := hg80.size
    refine pk0 (v := v78) h76 rfl fun a85 h85 => ?_; clear h76
    refine pl_nil ?_
    refine co_blockN ?_
    refine co_then ?_
    refine co_reg ?_
    refine pk (v := .int .i64 ((k + 1 : Nat) : Int)) h85 rfl (rn_arith' rfl rfl rfl rfl rfl rfl (IntWalk.i64_in _ (by omega)) (by omega)) fun a86 h86 => ?_; clear h85
    refine pk0 (v := .int .i64 ((k + 1 : Nat) : Int)) h86 rfl fun a87 h87 => ?_; clear h86
    refine pl_nil ?_
    refine co_then ?_
    refine ⟨(l.length - (k + 1)), by omega, ?_⟩
    have he0 := e0_snoc (by assumption : Lk.map e0 = _) hy32 (z := (EntT.mk y32.client y32.req u58 y32.opl y32.ts)) rfl
    have hE88 := hf23.new hg40
    have hE89 := hE88.blk hk41 (by decide) hg50
    have hE90 := hE89.new (below_grown hb60)
    have hE91 := hE90.new hg66
    have hE92 := hE91.row hr82 (by decide) hg80
    have hr93 := row_kept_row hr83 hr82 hg80 (by decide)
    have hB94 := hb_call hB57 hb60
    have hB95 := hb_new hB94 hg66
    have hB96 := hb_row hB95 hr82 (by omega) hg80
    exact ⟨k + 1, v78, (Lk ++ [(EntT.mk y32.client y32.req u58 y32.opl y32.ts)]), h87.sub ⟨rfl, rfl, rfl, rfl, trivial⟩, rfl, by omega, by first | rfl | exact he0, (row_eq hr79' (rfl)), (EntsH.snoc hE92 (e := EntT.mk y32.client y32.req u58 y32.opl y32.ts) ⟨row_lows hr93 (Nat.zero_le _), InS.low hr93 (by omega), by omega, oky32.each, oky32.ts0, oky32.ts1, oky32.cl, oky32.rq⟩), hB96⟩
end Go.Proofs.Ytniojcnkjehflaa

/- The document's log: Copy, Stamp. Conditions: at most 100 entries, 20 operations each. -/
namespace Go.Proofs.Ytniojcnkjehflaa
open Go.RowKit Go.PlainAid
set_option linter.unusedVariables false


/-- The document's log. -/
structure RgP (S : Nat → Prop) (n : Nat) (w : World) (b : Nat) (u : Value) (L : List EntT) : Prop where
  blk : Blk w b 31 #[u]
  row : w.ownsRow 0 37 4 u L.length (L.flatMap entE)
  ents : EntsK S n w L
  sb : S b ∨ n ≤ b
  su : InS S n u
  len : L.length ≤ 100
theorem EntsK.low {S : Nat → Prop} {n m : Nat} {w : World} {L : List EntT} (h : EntsK (fun _ => False) m w L) (hn : n ≤ m) : EntsK S n w L := fun e he =>
  ⟨(h e he).row, fun i hi => by rcases (h e he).ins i hi with q | q; exact absurd q id; exact .inr (by omega), (h e he).len, (h e he).each, (h e he).ts0, (h e he).ts1, (h e he).cl, (h e he).rq⟩
theorem e0_len {A B : List EntT} (h : A.map e0 = B.map e0) : A.length = B.length := by have := congrArg List.length h; simpa using this
theorem e0_at {A B : List EntT} {i : Nat} {y : EntT} (h : A.map e0 = B.map e0) (hy : A[i]? = some y) : ∃ z, B[i]? = some z ∧ e0 z = e0 y := by
  have := congrArg (·[i]?) h
  simp only [List.getElem?_map, hy, Option.map_some] at this
  rw [eq_comm, Option.map_eq_some_iff] at this
  exact this
theorem e0_f {α : Type} {f : EntT → α} (hf : ∀ e, f (e0 e) = f e) {A B : List EntT} (h : A.map e0 = B.map e0) : A.map f = B.map f := by
  have := congrArg (List.map f) h
  simp only [List.map_map] at this
  rwa [show f ∘ e0 = f from funext hf] at this
theorem e0_ts {y z : EntT} (h : e0 z = e0 y) : z.ts = y.ts ∧ z.client = y.client ∧ z.req = y.req ∧ z.opl = y.opl := by
  unfold e0 at h
  simp only [EntT.mk.injEq] at h
  exact ⟨h.2.2.2.2, h.1, h.2.1, h.2.2.2.1⟩
end Go.Proofs.Ytniojcnkjehflaa

/- What two lists have in common; what comes to a list. Pure. Conditions: none. -/
namespace Go.Proofs.Ytniojcnkjehflaa
open Go.RowKit Go.PlainAid
set_option linter.unusedVariables false
set_option linter.unusedSimpArgs false

/-- Two entries stand for the same, operations aside. -/
def agE (a b : EntT) : Bool := decide (a.client = b.client ∧ a.req = b.req ∧ a.ts = b.ts)
def comN : List EntT → List EntT → Nat
  | a :: A, b :: B => if agE a b = true then comN A B + 1 else 0
  | _, _ => 0
section
variable {A B K L W : List EntT} {n i : Nat} {x y z : EntT}
theorem com_nilL : comN [] B = 0 := by cases B <;> rfl
theorem com_nilR : comN A [] = 0 := by cases A <;> rfl
theorem com_le : ∀ (A B : List EntT), comN A B ≤ A.length ∧ comN A B ≤ B.length
  | [], B => by rw [com_nilL]; omega
  | _ :: _, [] => by rw [com_nilR]; omega
  | a :: A, b :: B => by
    have := com_le A B
    rw [comN]; split
    · simp only [List.length_cons]; omega
    · omega
theorem com_step (h : comN (A.drop n) (B.drop n) + n = comN A B) (hx : A[n]? = some x) (hy : B[n]? = some y) (ha : agE x y = true) : comN (A.drop (n + 1)) (B.drop (n + 1)) + (n + 1) = comN A B := by
  obtain ⟨h1, e1⟩ := List.getElem?_eq_some_iff.1 hx
  obtain ⟨h2, e2⟩ := List.getElem?_eq_some_iff.1 hy
  rw [List.drop_eq_getElem_cons h1, List.drop_eq_getElem_cons h2, e1, e2, comN, if_pos ha] at h
  omega
theorem com_no (h : comN (A.drop n) (B.drop n) + n = comN A B) (hx : A[n]? = some x) (hy : B[n]? = some y) (ha : agE x y = false) : n = comN A B := by
  obtain ⟨h1, e1⟩ := List.getElem?_eq_some_iff.1 hx
  obtain ⟨h2, e2⟩ := List.getElem?_eq_some_iff.1 hy
  rw [List.drop_eq_getElem_cons h1, List.drop_eq_getElem_cons h2, e1, e2, comN, if_neg (by rw [ha]; simp)] at h
  omega
theorem com_end (h : comN (A.drop n) (B.drop n) + n = comN A B) (hn : A.length ≤ n ∨ B.length ≤ n) : n = comN A B := by
  rcases hn with q | q
  · rw [List.drop_eq_nil_of_le q, com_nilL] at h; omega
  · rw [List.drop_eq_nil_of_le q, com_nilR] at h; omega
theorem com_at : ∀ {A B : List EntT} {i : Nat} {x y : EntT}, i < comN A B → A[i]? = some x → B[i]? = some y → agE x y = true
  | [], B, i, x, y, h, _, _ => by rw [com_nilL] at h; omega
  | _ :: _, [], i, x, y, h, _, _ => by rw [com_nilR] at h; omega
  | a :: A, b :: B, 0, x, y, h, hx, hy => by
    simp only [List.getElem?_cons_zero, Option.some.injEq] at hx hy
    subst hx; subst hy
    rw [comN] at h
    by_cases q : agE a b = true
    · exact q
    · rw [if_neg q] at h; omega
  | a :: A, b :: B, i + 1, x, y, h, hx, hy => by
    rw [List.getElem?_cons_succ] at hx hy
    rw [comN] at h
    split at h
    · exact com_at (by omega) hx hy
    · omega
theorem com_all : ∀ {n : Nat} {A B : List EntT}, n ≤ A.length → n ≤ B.length → (∀ i x y, i < n → A[i]? = some x → B[i]? = some y → agE x y = true) → n ≤ comN A B
  | 0, _, _, _, _, _ => Nat.zero_le _
  | n + 1, [], _, h, _, _ => by simp at h
  | n + 1, _ :: _, [], _, h, _ => by simp at h
  | n + 1, a :: A, b :: B, h1, h2, h => by
    simp only [List.length_cons] at h1 h2
    rw [comN, if_pos (h 0 a b (by omega) rfl rfl)]
    have := com_all (n := n) (A := A) (B := B) (by omega) (by omega) (fun i x y hi hx hy => h (i + 1) x y (by omega) (by rw [List.getElem?_cons_succ]; exact hx) (by rw [List.getElem?_cons_succ]; exact hy))
    omega
theorem agE_e0 {x' y' : EntT} (h1 : e0 x = e0 x') (h2 : e0 y = e0 y') : agE x y = agE x' y' := by
  obtain ⟨a1, a2, a3, a4⟩ := e0_ts h1
  obtain ⟨b1, b2, b3, b4⟩ := e0_ts h2
  unfold agE; rw [a1, a2, a3, b1, b2, b3]
/-- An entry without operations. -/
def bareE (e : EntT) : EntT := EntT.mk e.client e.req (.slice none 0 0) [] e.ts
theorem agE_bare : agE (bareE x) x = true := decide_eq_true ⟨rfl, rfl, rfl⟩
def addL (W K : List EntT) : List EntT := W ++ (K.drop W.length).map bareE
theorem addL_len : (addL W K).length = max W.length K.length := by unfold addL; rw [List.length_append, List.length_map, List.length_drop]; omega
theorem addL_snoc (hi : W.length ≤ i) (hy : K[i]? = some y) : addL W (K.take i) ++ [bareE y] = addL W (K.take (i + 1)) := by
  obtain ⟨h1, e1⟩ := List.getElem?_eq_some_iff.1 hy
  unfold addL
  rw [List.append_assoc]
  congr 1
  rw [List.take_add_one, hy, List.drop_append_of_le_length (by rw [List.length_take]; omega), List.map_append]; rfl
theorem addL_0 (h : i = W.length) : addL W (K.take i) = W := by
  unfold addL; rw [List.drop_eq_nil_of_le (by rw [List.length_take]; omega)]; simp
theorem addL_all (h : K.length ≤ i) : addL W (K.take i) = addL W K := by rw [List.take_of_length_le h]
/-- All that is known agrees with what it came to. -/
theorem add_ag (hc : ¬ comN W K < min W.length K.length) (hL : L.map e0 = (addL W K).map e0) : ∀ i x y, i < K.length → L[i]? = some x → K[i]? = some y → agE x y = true := by
  intro i x y hi hx hy
  obtain ⟨z, hz, ez⟩ := e0_at hL hx
  rw [agE_e0 (x' := z) (y' := y) ez.symm rfl]
  unfold addL at hz
  by_cases q : i < W.length
  · rw [List.getElem?_append_left q] at hz
    exact com_at (by omega) hz hy
  · rw [List.getElem?_append_right (by omega), List.getElem?_map, List.getElem?_drop, show W.length + (i - W.length) = i from by omega, hy] at hz
    cases hz; exact agE_bare
theorem add_again (hc : ¬ comN W K < min W.length K.length) (hL : L.map e0 = (addL W K).map e0) : ¬ comN L K < min L.length K.length ∧ addL L K = L := by
  have hl : L.length = max W.length K.length := by rw [e0_len hL, addL_len]
  refine ⟨?_, ?_⟩
  · have := com_all (n := K.length) (A := L) (B := K) (by omega) (Nat.le_refl _) (add_ag hc hL)
    omega
  · unfold addL; rw [List.drop_eq_nil_of_le (by omega)]; simp
theorem add_take (hL : L.map e0 = (addL W K).map e0) : W.length ≤ L.length ∧ (L.take W.length).map e0 = W.map e0 := by
  have hl : L.length = max W.length K.length := by rw [e0_len hL, addL_len]
  refine ⟨by omega, ?_⟩
  rw [List.map_take, hL, ← List.map_take]
  unfold addL; rw [List.take_left']; rfl
theorem add_holds {G : List EntT} {n k : Nat} (hK : K = G.take k) (hc : ¬ comN W K < min W.length K.length) (hL : L.map e0 = (addL W K).map e0) (hn : n ≤ K.length) : n ≤ G.length ∧ (L.take n).length = n ∧ ¬ comN (L.take n) G < n := by
  have hl : L.length = max W.length K.length := by rw [e0_len hL, addL_len]
  have hG : K.length ≤ G.length := by rw [hK, List.length_take]; omega
  refine ⟨by omega, by rw [List.length_take]; omega, ?_⟩
  have := com_all (n := n) (A := L.take n) (B := G) (by rw [List.length_take]; omega) (by omega) (fun i x y hi hx hy => by
    rw [List.getElem?_take, if_pos hi] at hx
    refine add_ag hc hL i x y (by omega) hx ?_
    have hk : i < k := by rw [hK, List.length_take] at hn; omega
    rw [hK, List.getElem?_take, if_pos hk]; exact hy)
  omega
end
end Go.Proofs.Ytniojcnkjehflaa
