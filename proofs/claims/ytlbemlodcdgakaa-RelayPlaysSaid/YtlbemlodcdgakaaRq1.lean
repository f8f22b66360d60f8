/- Put together: LibRp, PexRp, SlRp, PexBRp, AppRp, PexCRp, PexDRp, PexTRp, MapRp, MapBRp, MapCRp, MapRRp, MapORp, ButRp, PexURp, RlgORp, OpenRp, StrsRp, EntRRp, PexVRp, RlgIRp, RlgARp, RlgCRp, RlgDRp, ConfAzRp, ConfDzRp, ConfFzRp, ConfZzRp, PexSnRp, MeARp, MeBRp, RelARp, RelBRp, FootRp, RelCRp, GoRp, RelDRp. Conditions: as each says. -/
import Derived.Test.YtlbemlodcdgakaaRows
import Derived.WalkKit
import Derived.WalkSpells
import Derived.WalkLawsBesides
import Derived.Deep.LoopGhost
import Derived.Lib.Hide
import Derived.Laws.IdiomStrings
import Derived.Lib.QuietBelow
import Derived.BigQuiet
import Derived.PlainAid
import Derived.Lib.SmallJoins
import Derived.Deep.MidRow
import Derived.Deep.RegionHeld3
import Derived.Laws.AppendOwnNone
import Derived.Deep.AppendLies
import Derived.Deep.RegionLaw
import Derived.StringKeys
import Derived.Laws.StructEq
import Derived.Maps.RangeRun
import Derived.MapKept
import Derived.OwnWalk
import Derived.Lib.AppendStr
import Derived.Laws.BytesArg
import Derived.ProofKit
import Derived.Deep.Slices
import Derived.Deep.Fields
import Derived.SliceStrings
import Derived.SizedLaws
import Derived.Laws.Pointers
import Derived.Deep.QuietTactic
import Derived.Laws.RangeString
import Derived.Laws.Strings
import Derived.LoopN
/- Small laws on worlds, rows and bounds that the walks of this seat share. Conditions: none. -/
namespace Go.Proofs.Ytlbemlodcdgakaa
open Go.RowKit

theorem ret_int {k : IntKind} {a b : Int} (h : a = b) : Ending.returned (.int k a) = .returned (.int k b) := by rw [h]
theorem ret_bool {a b : Bool} (h : a = b) : Ending.returned (.bool a) = .returned (.bool b) := by rw [h]
theorem wf_u64 {a : Int} (h : (Lit.int .u64 a).wf = true) : 0 ≤ a ∧ a < 18446744073709551616 := by
  have : 0 ≤ a ∧ a ≤ 18446744073709551615 := by simpa [Lit.wf, IntKind.min, IntKind.max, IntKind.signed, IntKind.bits] using h
  omega
theorem wf_i64 {a : Int} (h : (Lit.int .i64 a).wf = true) : -9223372036854775808 ≤ a ∧ a ≤ 9223372036854775807 := by
  simpa [Lit.wf, IntKind.min, IntKind.max, IntKind.signed, IntKind.bits] using h
theorem below_draws {B : Nat} {w w' : World} (h : Below B w w') (n : Nat) : Below B w (w'.drewN n) := ⟨h.os, h.tape, h.output, h.size, h.block⟩
/-- A cell of a world, read behind it. -/
theorem cell_below {w w' : World} (h : Below w.heap.size w w') {a : Addr} {v : Value} (hc : w.cell? a = some v) : w'.cell? a = some v :=
  (h.cell (World.block_lt_of_cell? w a hc)).trans hc
end Go.Proofs.Ytlbemlodcdgakaa

/- Steps of a walk over known slots: what a frame's slots hold is kept as a list; each operation, branch and loop by one law. Conditions: none. -/
namespace Go.Proofs.Ytlbemlodcdgakaa
open Go.RowKit

section
variable {P : Program} {n : Nat} {m : List (Nat × Value)} {a : Act} {w : World}

/-- What is known of a frame: its size, that nothing is deferred, what some of its slots hold. -/
structure Slots (n : Nat) (m : List (Nat × Value)) (a : Act) : Prop where
  size : a.tmps.size = n
  defers : a.defers = []
  look : ∀ t v, m.lookup t = some v → a.tmps.getD t undef = v

def ev (m : List (Nat × Value)) : Operand → Option Value
  | .tmp t => m.lookup t
  | .const v => some v
  | .global g => some (.pointer (some ⟨g, 0, none⟩))
  | .func f => some (.func (.func f) #[] #[])
theorem Slots.ev (h : Slots n m a) {x : Operand} {v : Value} (hx : ev m x = some v) : a.eval x = v := by
  cases x with
  | tmp t => exact h.look t v hx
  | const u => simpa [Go.Proofs.Ytlbemlodcdgakaa.ev, Act.eval] using hx
  | global g => simpa [Go.Proofs.Ytlbemlodcdgakaa.ev, Act.eval] using hx
  | func f => simpa [Go.Proofs.Ytlbemlodcdgakaa.ev, Act.eval] using hx
def lk (m : List (Nat × Value)) (x : Operand) : Value := (ev m x).getD undef
def okOps (m : List (Nat × Value)) (o : Op) : Bool := o.operands.all fun x => (ev m x).isSome
theorem Slots.lk (h : Slots n m a) {x : Operand} (hx : (Go.Proofs.Ytlbemlodcdgakaa.ev m x).isSome = true) : a.eval x = lk m x := by
  obtain ⟨v, hv⟩ := Option.isSome_iff_exists.1 hx
  rw [h.ev hv]; simp [Go.Proofs.Ytlbemlodcdgakaa.lk, hv]
theorem Slots.put {d : Nat} {v : Value} (h : Slots n m a) (hd : d < n) : Slots n ((d, v) :: m) (a.put (some d) v) := by
  obtain ⟨h1, h2, h3⟩ := h
  refine ⟨by simp [Act.put, h1], h2, fun t u ht => ?_⟩
  rw [List.lookup_cons] at ht
  by_cases e : t = d
  · subst e
    simp at ht
    subst ht
    simp [Act.put, h1, hd]
  · have : (t == d) = false := by simpa using e
    rw [this] at ht
    have := h3 t u ht
    simp only [Act.put, Array.getD_eq_getD_getElem?] at this ⊢
    rw [Array.getElem?_setIfInBounds_ne (by omega)]
    exact this
/-- Less is known. -/
def Sub (m : List (Nat × Value)) : List (Nat × Value) → Prop
  | [] => True
  | p :: r => m.lookup p.1 = some p.2 ∧ Sub m r
theorem slot_eq {m : List (Nat × Value)} {t : Nat} {v v' : Value} (h : m.lookup t = some v) (e : v = v') : m.lookup (t, v').1 = some (t, v').2 := by subst e; exact h
theorem Sub.get {m : List (Nat × Value)} : ∀ {l : List (Nat × Value)}, Sub m l → ∀ t v, l.lookup t = some v → m.lookup t = some v
  | [], _, t, v, h => by simp at h
  | p :: r, hs, t, v, h => by
    rw [List.lookup_cons] at h
    by_cases e : t = p.1
    · subst e; simp at h; subst h; exact hs.1
    · have : (t == p.1) = false := by simpa using e
      rw [this] at h
      exact hs.2.get t v h
theorem Slots.sub {l : List (Nat × Value)} (h : Slots n m a) (hs : Sub m l) : Slots n l a := ⟨h.size, h.defers, fun t v ht => h.look t v (hs.get t v ht)⟩
theorem Slots.none {dst : Option Tmp} {v : Value} (h : Slots n m a) (hd : dst = none) : Slots n m (a.put dst v) := by subst hd; exact h

/-- Operation o, in a frame of which m is known and in world w: its value and the world behind it. -/
def Op1 (P : Program) (n : Nat) (m : List (Nat × Value)) (o : Oper) (w : World) (R : Value → World → Prop) : Prop :=
  ∀ a, Slots n m a → ∀ (N : Act → World → Prop) (Q : Exit → Act → World → Prop), (∀ v w', R v w' → N (a.put o.dst v) w') → o.wp P a w N Q

variable {o : Oper} {ops : Array Oper} {rest : List Oper} {Q : Exit → Act → World → Prop} {R : Value → World → Prop}
theorem op_run {v : Value} {w' : World} (hok : okOps m o.op = true) (hsel : (match o.op with | .select .. => true | _ => false) = false) (hrun : (execOp (lk m) o).run P w = .ok (.value v) w') : Op1 P n m o w (fun u x => u = v ∧ x = w') := by
  intro a ha N Q h
  have he : execOp a.eval o = execOp (lk m) o := execOp_congr o (fun cs b e => by simp [e] at hsel) (fun x hx => ha.lk (Array.all_eq_true_iff_forall_mem.1 hok x hx))
  unfold Oper.wp
  rw [he, hrun]
  exact h _ _ ⟨rfl, rfl⟩
theorem Op1.mono {R' : Value → World → Prop} (h : Op1 P n m o w R) (hr : ∀ v w', R v w' → R' v w') : Op1 P n m o w R' := fun a ha N Q hN => h a ha N Q fun v w' hv => hN v w' (hr v w' hv)
/-- A call of a Go function. -/
theorem op_call {c : Call} {x : Operand} {f : FuncId} {args : Array Value} {E : Ending → World → Prop} (ho : o.op = .call c) (hc : c.callee = .value x) (hf : ev m x = some (.func (.func f) #[] #[]))
    (hok : okOps m o.op = true) (hargs : c.args.map (lk m) = args) (hcall : (callFunc f args).run P w = .ok (.enter f args) w) (h : Calls P f args w E) (hE : ∀ e w', E e w' → ∃ v, e = .returned v ∧ R v w') : Op1 P n m o w R := by
  intro a ha N Q hN
  have he : execOp a.eval o = execOp (lk m) o := execOp_congr o (fun cs b e => by simp [e] at ho) (fun x hx => ha.lk (Array.all_eq_true_iff_forall_mem.1 hok x hx))
  unfold Oper.wp
  rw [he]
  have hfx : lk m x = .func (.func f) #[] #[] := by simp [lk, hf]
  have : (execOp (lk m) o).run P w = .ok (.enter f args) w := by
    simp only [execOp, ho, resolve, hc, hfx, Deferred.ofValue, hargs, Sem.run_bind, Sem.run_pure, Result.andThen_ok, invoke]
    simpa using hcall
  rw [this, Oper.upon_enter]
  refine h.mono fun e w' he => ?_
  obtain ⟨v, rfl, hv⟩ := hE e w' he
  exact hN v w' hv
theorem lk_ev {x : Operand} {v : Value} (hx : ev m x = some v) : lk m x = v := by simp [lk, hx]
/-- One cell is loaded. -/
theorem rn_load1 {t : TypeId} {x : Operand} {p : Addr} {v : Value} (ho : o.op = .load t x) (hx : ev m x = some (.pointer (some p))) (ht : ∀ w : World, (isAgg t).run P w = .ok false w) (hc : w.cell? p = some v) : (execOp (lk m) o).run P w = .ok (.value v) w := by
  unfold execOp
  have hl : (Instr.loadAt t (.pointer (some p))).run P w = .ok v w := by
    simp [Instr.loadAt, Instr.sureAddr, loadVar, ht, Sem.run_bind, load, Sem.run, hc]
  simp only [ho, lk_ev hx, Sem.run_bind, hl, Result.andThen_ok, Sem.run_pure]
/-- Several cells are loaded. -/
theorem rn_loadN {t : TypeId} {x : Operand} {b o' : Nat} {cs : List Value} {d : TypeDesc} (ho : o.op = .load t x) (hx : ev m x = some (.pointer (some ⟨b, o', none⟩))) (hu : P.underlying t = some d) (hd : d.isRow = true) (hi : (P.info? t).map (·.size) = some cs.length) (hc : w.rangeAt b o' cs) : (execOp (lk m) o).run P w = .ok (.value (.agg cs.toArray)) w := by
  unfold execOp
  simp only [ho, lk_ev hx, Instr.loadAt, Instr.sureAddr, Sem.run_bind, Sem.run_pure, Result.andThen_ok, run_loadVar_mid w b o' t cs d hc hu hd hi]
/-- An int's sum, difference, product that is in range. -/
theorem rn_arith {op : BinOp} {T T' : TypeId} {x y : Operand} {k : IntKind} {i j z : Int} (ho : o.op = .binOp op T x y T') (hx : ev m x = some (.int k i)) (hy : ev m y = some (.int k j)) (hop : Op.intArith op k i j = .pure (.int k (k.wrap z))) (hne : (op matches .shl | .shr | .eql | .neq) = false) (hcl : binOp op T (.int k i) (.int k j) = Op.intArith op k i j) (hz : k.wrap z = z) : (execOp (lk m) o).run P w = .ok (.value (.int k z)) w := by
  unfold execOp
  have hg : (eqGuard op T x y (.int k i) (.int k j)).run P w = .ok () w := by
    unfold eqGuard
    cases op <;> simp at hne <;> rfl
  simp only [ho, lk_ev hx, lk_ev hy, Sem.run_bind, hg, hcl, hop, hz, Result.andThen_ok]
  rfl

theorem rn_arith' {op : BinOp} {T T' : TypeId} {x y : Operand} {k : IntKind} {i j z z' : Int} (ho : o.op = .binOp op T x y T') (hx : ev m x = some (.int k i)) (hy : ev m y = some (.int k j)) (hop : Op.intArith op k i j = .pure (.int k (k.wrap z))) (hne : (op matches .shl | .shr | .eql | .neq) = false) (hcl : binOp op T (.int k i) (.int k j) = Op.intArith op k i j) (hz : k.wrap z = z) (he : z = z') : (execOp (lk m) o).run P w = .ok (.value (.int k z')) w := by
  subst he; exact rn_arith ho hx hy hop hne hcl hz
section minmax
variable {ts : Array TypeId} {x y : Operand} {k : IntKind} {i j : Int}
end minmax

/-! ### A plain region -/
theorem pl_nil (h : Q .normal a w) : wpList P ops Q [] a w := h
theorem getD_some {tmps : Array Value} {t : Nat} {b : Bool} (h : tmps.getD t undef = .bool b) : tmps[t]? = some (.bool b) := by
  rw [Array.getD_eq_getD_getElem?] at h
  cases hx : tmps[t]? with
  | none => rw [hx] at h; simp [undef] at h
  | some u => rw [hx] at h; simp at h; rw [h]
/-- Is a guarded operation wanted? -/
def wantB (m : List (Nat × Value)) (ops : Array Oper) (o : Oper) : Option Bool :=
  match o.guard with
  | none => some true
  | some (g, b) => match ((ops[g]?).bind (·.dst)).bind (m.lookup ·) with
    | some (.bool c) => some (c == b)
    | some (.tuple _) => some false
    | _ => none
theorem Slots.wants {c : Bool} (hs : Slots n m a) (h : wantB m ops o = some c) : Region.wanted o (yielded ops a.tmps) = c := by
  unfold wantB at h
  unfold Region.wanted
  cases hg : o.guard with
  | none => rw [hg] at h; simpa using h
  | some p =>
    obtain ⟨g, b⟩ := p
    rw [hg] at h
    simp only at h ⊢
    cases hd : (ops[g]?).bind (·.dst) with
    | none => rw [hd] at h; simp at h
    | some d =>
      rw [hd] at h
      simp only [Option.bind_some] at h
      cases hm : m.lookup d with
      | none => rw [hm] at h; simp at h
      | some u =>
        rw [hm] at h
        cases u <;> simp at h
        · rename_i q
          have := getD_some (hs.look d _ hm)
          simp [yielded, hd, this, h]
        · rename_i q
          subst h
          have h1 := hs.look d _ hm
          rw [Array.getD_eq_getD_getElem?] at h1
          have h2 : yielded ops a.tmps g = Option.none := by
            unfold yielded
            rw [hd]
            simp only [Option.bind_some]
            cases hx : a.tmps[d]? with
            | none => rfl
            | some u => rw [hx] at h1; simp at h1; subst h1; rfl
          rw [h2]; rfl
theorem pl_want {d : Nat} (hs : Slots n m a) (hg : wantB m ops o = some true) (hd : o.dst = some d) (hdn : Nat.blt d n = true) (h1 : Op1 P n m o w R)
    (h : ∀ v w' a', R v w' → Slots n ((d, v) :: m) a' → wpList P ops Q rest a' w') : wpList P ops Q (o :: rest) a w :=
  wpList_step fun K hK => by
    rw [if_pos (hs.wants hg)]
    exact h1 a hs K Q fun v w' hv => hK _ _ (h v w' _ hv (by rw [hd]; exact hs.put (by simpa using hdn)))
theorem pl_doW (hs : Slots n m a) (hg : wantB m ops o = some true) (hd : o.dst = none) (h1 : Op1 P n m o w R)
    (h : ∀ v w' a', R v w' → Slots n m a' → wpList P ops Q rest a' w') : wpList P ops Q (o :: rest) a w :=
  wpList_step fun K hK => by
    rw [if_pos (hs.wants hg)]
    exact h1 a hs K Q fun v w' hv => hK _ _ (h v w' _ hv (hs.none hd))
theorem pl_skip {d : Nat} (hs : Slots n m a) (hg : wantB m ops o = some false) (hd : o.dst = some d) (hdn : Nat.blt d n = true)
    (h : ∀ a', Slots n ((d, undef) :: m) a' → wpList P ops Q rest a' w) : wpList P ops Q (o :: rest) a w :=
  wpList_step fun K hK => by
    rw [if_neg (by simp [hs.wants hg])]
    exact hK _ _ (h _ (by rw [hd]; exact hs.put (by simpa using hdn)))

/-- An operation that leaves the world as it is. -/
theorem pl_val {d : Nat} {v : Value} (hs : Slots n m a) (hg : wantB m ops o = some true) (hd : o.dst = some d) (hdn : Nat.blt d n = true) (hok : okOps m o.op = true) (hsel : (match o.op with | .select .. => true | _ => false) = false) (hrun : (execOp (lk m) o).run P w = .ok (.value v) w)
    (h : ∀ a', Slots n ((d, v) :: m) a' → wpList P ops Q rest a' w) : wpList P ops Q (o :: rest) a w :=
  pl_want hs hg hd hdn (op_run hok hsel hrun) fun _ _ a' ⟨h1, h2⟩ hs' => by subst h1 h2; exact h a' hs'
/-! ### A region that draws its order -/
variable {md : Region.Mode} {S : World → Prop} {fuel : Nat} {listed : Array Bool} {i d : Nat}
abbrev NP (Q : Exit → Act → World → Prop) := NoPanic Q
theorem dr_start {id : Nat} {l : List Oper} (hm : P.follows .mixedOrders = true) (hS : S w.drew) (h : wpAnyH P .any l.toArray (NP Q) S l.length (Array.replicate l.length false) a w.drew) : (Code.region id l.toArray true).wp P Q a w :=
  wp_region_noPanic (wp_region_held_drew (S := S) hm hS fun _ => by simpa using h)
/-- Number i, which yields v in every world that meets S, is taken first. -/
theorem dr_take {v : Value} (hs : Slots n m a) (ho : ops[i]? = some o) (hsel : Region.noSelect ops = true) (hf : Region.free md ops listed i = true) (hr : (Region.ready md ops listed).contains i = true)
    (hw : wantB m ops o = some true) (hd : o.dst = some d) (hdn : Nat.blt d n = true) (hS : S w) (hok : okOps m o.op = true) (hrun : ∀ w, S w → (execOp (lk m) o).run P w = .ok (.value v) w)
    (h : ∀ a', Slots n ((d, v) :: m) a' → wpAnyH P md ops (NP Q) S fuel (listed.setIfInBounds i true) a' w) : wpAnyH P md ops (NP Q) S (fuel + 1) listed a w := by
  have he : execOp a.eval o = execOp (lk m) o := execOp_congr o (fun cs b e => Region.noSelect_spec hsel i o cs b ho e) (fun x hx => hs.lk (Array.all_eq_true_iff_forall_mem.1 hok x hx))
  refine wpAnyH_take ho hsel hf hr (fun _ _ _ h => h) (Or.inl ⟨hs.wants hw, fun w' hw' => by rw [he]; exact hrun w' hw'⟩) hS ?_
  exact h _ (by rw [hd]; exact hs.put (by simpa using hdn))
/-- Number i alone may come up. -/
theorem dr_one (hs : Slots n m a) (ho : ops[i]? = some o) (hr : Region.ready md ops listed = [i]) (hw : wantB m ops o = some true) (hd : o.dst = some d) (hdn : Nat.blt d n = true) (h1 : Op1 P n m o w R) (hS : ∀ v w', R v w' → S w')
    (h : ∀ v w' a', R v w' → Slots n ((d, v) :: m) a' → wpAnyH P md ops (NP Q) S fuel (listed.setIfInBounds i true) a' w') : wpAnyH P md ops (NP Q) S (fuel + 1) listed a w := by
  refine wpAnyH_all hr (by simp) fun j hj => ?_
  simp only [List.mem_singleton] at hj
  subst hj
  unfold wpOp
  simp only [ho, hs.wants hw, if_true]
  exact .inl (h1 a hs _ _ fun v w' hv => ⟨hS v w' hv, h v w' _ hv (by rw [hd]; exact hs.put (by simpa using hdn))⟩)
theorem dr_oneDo (hs : Slots n m a) (ho : ops[i]? = some o) (hr : Region.ready md ops listed = [i]) (hw : wantB m ops o = some true) (hd : o.dst = none) (h1 : Op1 P n m o w R) (hS : ∀ v w', R v w' → S w')
    (h : ∀ v w' a', R v w' → Slots n m a' → wpAnyH P md ops (NP Q) S fuel (listed.setIfInBounds i true) a' w') : wpAnyH P md ops (NP Q) S (fuel + 1) listed a w := by
  refine wpAnyH_all hr (by simp) fun j hj => ?_
  simp only [List.mem_singleton] at hj
  subst hj
  unfold wpOp
  simp only [ho, hs.wants hw, if_true]
  exact .inl (h1 a hs _ _ fun v w' hv => ⟨hS v w' hv, h v w' _ hv (hs.none hd)⟩)
theorem dr_done (hr : Region.ready md ops listed = []) (h : Q .normal a w) : wpAnyH P md ops (NP Q) S fuel listed a w := wpAnyH_done hr (NoPanic.normal h) fuel

/-! ### Code -/
theorem co_seq {x y : Code} (h : x.wp P (Exit.then (y.wp P Q) Q) a w) : (Code.seq x y).wp P Q a w := wp_seq h
theorem co_reg {id : Nat} {l : List Oper} (h : wpList P l.toArray Q l a w) : (Code.region id l.toArray false).wp P Q a w := wp_region_lit h
theorem co_then {K : Act → World → Prop} (h : K a w) : Exit.then K Q .normal a w := h
theorem co_true {c : Operand} {x y : Code} (hs : Slots n m a) (hc : ev m c = some (.bool true)) (h : x.wp P Q a w) : (Code.cond c x y).wp P Q a w := wp_cond_true (hs.ev hc) h
theorem co_false {c : Operand} {x y : Code} (hs : Slots n m a) (hc : ev m c = some (.bool false)) (h : y.wp P Q a w) : (Code.cond c x y).wp P Q a w := wp_cond_false (hs.ev hc) h
theorem co_loop {c : Code} (I : Nat → Act → World → Prop) (k : Nat) (h₀ : I k a w) (round : ∀ k a w, I k a w → c.wp P (Exit.then (fun a' w' => ∃ k', k' < k ∧ I k' a' w') Q) a w) : (Code.loop c).wp P Q a w := wp_loop_ghost I k h₀ round
theorem co_thenX {K : Act → World → Prop} {i : Nat} (h : Q (.exit i) a w) : Exit.then K Q (.exit i) a w := h
theorem co_thenR {K : Act → World → Prop} (h : Q .ret a w) : Exit.then K Q .ret a w := h
theorem co_blockN {i : Nat} (h : Q .normal a w) : Exit.inBlock i Q .normal a w := h
theorem co_blockX {i : Nat} (h : Q .normal a w) : Exit.inBlock i Q (.exit i) a w := by simpa [Exit.inBlock] using h
theorem co_blockY {i j : Nat} (hne : i ≠ j) (h : Q (.exit i) a w) : Exit.inBlock j Q (.exit i) a w := by simpa [Exit.inBlock, hne] using h
theorem co_blockR {i : Nat} (h : Q .ret a w) : Exit.inBlock i Q .ret a w := h
/-- The call begins. -/
theorem co_enter {f : FuncId} {fn : Func} {c : Code} {args : Array Value} {E : Ending → World → Prop} (hf : P.funcs[f]? = some fn) (hb : fn.body = some c) (hn : fn.ntmps = n) (hl : Nat.ble args.size n = true) (m : List (Nat × Value)) (hm : m = args.toList.zipIdx.map fun p => (p.2, p.1))
    (h : ∀ a, Slots n m a → c.wp P (bodyPost P fn E) a w) : Calls P f args w E := by
  have hl := Nat.le_of_ble_eq_true hl
  refine calls_of_wp hf hb (h _ ⟨by simp [hn]; omega, rfl, fun t v ht => ?_⟩)
  subst hm
  have hlk : ∀ (l : List Value) (k t : Nat) v, ((l.zipIdx k).map fun p => (p.2, p.1)).lookup t = some v → k ≤ t ∧ l[t - k]? = some v := by
    intro l
    induction l with
    | nil => intro k t v h; simp at h
    | cons x l ih =>
      intro k t v h
      rw [List.zipIdx_cons, List.map_cons, List.lookup_cons] at h
      by_cases e : t = k
      · subst e; simp at h; subst h; simp
      · have hb : (t == k) = false := by simpa using e
        rw [hb] at h
        obtain ⟨h1, h2⟩ := ih (k + 1) t v h
        refine ⟨by omega, ?_⟩
        rw [show t - k = (t - (k + 1)) + 1 by omega, List.getElem?_cons_succ]; exact h2
  obtain ⟨_, h2⟩ := hlk _ 0 t v ht
  simp only [Nat.sub_zero, Array.getElem?_toList] at h2
  rw [Array.getD_eq_getD_getElem?, Array.getElem?_append_left (Array.getElem?_eq_some_iff.1 h2).1, h2]; rfl
/-- The call ends. -/
theorem co_ret1 {fn : Func} {E : Ending → World → Prop} {t : Nat} {v : Value} (hs : Slots n m a) (hr : fn.results = #[.tmp t]) (ht : m.lookup t = some v) (h : E (.returned v) w) : bodyPost P fn E .ret a w := by
  have := hs.look t v ht
  exact bodyPost_ret (results_tmp hr a.tmps P w) hs.defers (by rw [this]; exact h)
theorem co_ret0n {fn : Func} {E : Ending → World → Prop} (hs : Slots n m a) (hr : fn.results = #[]) (h : E (.returned (.tuple #[])) w) : bodyPost P fn E .normal a w :=
  bodyPost_end (results_none hr a.tmps P w) hs.defers h
end
end Go.Proofs.Ytlbemlodcdgakaa

/- Slices that are read, whatever their elements: their cells; a struct that is loaded out of one; an append from one. Conditions: none. -/
namespace Go.Proofs.Ytlbemlodcdgakaa
open Go.RowKit

/-- The slice v reads as the list l: each element's cells are what enc says, sz of them. -/
def SliceOf {α : Type} (enc : α → List Value) (sz : Nat) (w : World) (v : Value) (l : List α) : Prop :=
  ∃ ao cap, v = .slice ao l.length cap ∧ l.length ≤ cap ∧ cap ≤ 9223372036854775807 ∧ (ao = none → l.length = 0 ∧ cap = 0) ∧
    ∀ j (h : j < l.length), ∃ b off, ao = some ⟨b, off, none⟩ ∧ w.rangeAt b (off + j * sz) (enc l[j])

theorem SliceOf.below {α : Type} {enc : α → List Value} {sz : Nat} {w w' : World} {v : Value} {l : List α} (h : SliceOf enc sz w v l) (hb : Below w.heap.size w w') : SliceOf enc sz w' v l := by
  obtain ⟨ao, cap, hv, h1, h2, h3, h4⟩ := h
  refine ⟨ao, cap, hv, h1, h2, h3, fun j hj => ?_⟩
  obtain ⟨b, off, e, hr⟩ := h4 j hj
  exact ⟨b, off, e, fun i u hu => cell_below hb (hr i u hu)⟩
theorem SliceOf.nil {α : Type} (enc : α → List Value) (sz : Nat) (w : World) : SliceOf enc sz w (.slice none 0 0) ([] : List α) :=
  ⟨none, 0, rfl, by simp, by omega, fun _ => ⟨rfl, rfl⟩, fun j hj => absurd hj (by simp)⟩
/-- One integer a cell. -/
def intE (k : IntKind) (n : Int) : List Value := [.int k n]
/-- The cells of rows of one size, one behind the other. -/
theorem flat_at {α : Type} {enc : α → List Value} {size : Nat} : ∀ (l : List α) (q r : Nat) (hql : q < l.length), (∀ y ∈ l, (enc y).length = size) → r < size → (l.flatMap enc)[q * size + r]? = (enc l[q])[r]?
  | [], q, r, hql, _, _ => absurd hql (by simp)
  | y :: l, 0, r, _, hy, hr => by
    rw [List.flatMap_cons, Nat.zero_mul, Nat.zero_add, List.getElem?_append_left (by rw [hy y (by simp)]; exact hr)]; rfl
  | y :: l, q + 1, r, hql, hy, hr => by
    rw [List.flatMap_cons, List.getElem?_append_right (by rw [hy y (by simp), Nat.add_mul]; omega), hy y (by simp), show (q + 1) * size + r - size = q * size + r by rw [Nat.add_mul]; omega]
    exact flat_at l q r (by simpa using hql) (fun z hz => hy z (by simp [hz])) hr
theorem flat_len {α : Type} {enc : α → List Value} {size : Nat} : ∀ (l : List α), (∀ y ∈ l, (enc y).length = size) → (l.flatMap enc).length = l.length * size
  | [], _ => by simp
  | y :: l, hy => by rw [List.flatMap_cons, List.length_append, hy y (by simp), flat_len l (fun z hz => hy z (by simp [hz])), List.length_cons, Nat.add_mul]; omega
/-- A row of the call's own. -/
theorem SliceOf.own {α : Type} {enc : α → List Value} {sz : Nat} {w : World} {B : Nat} {e : TypeId} {v : Value} {l : List α} (h : w.ownsRow B e sz v l.length (l.flatMap enc)) (hsz : ∀ x ∈ l, (enc x).length = sz) : SliceOf enc sz w v l := by
  rcases h.2 with ⟨hv, hn⟩ | ⟨g, cap, cur, hv, hg, _, hnc, hcm, _⟩
  · obtain rfl : l = [] := List.eq_nil_of_length_eq_zero hn
    rw [hv]; exact SliceOf.nil _ _ _
  · refine ⟨some ⟨g, 0, none⟩, cap, hv, hnc, by unfold maxLen at hcm; omega, fun h => by (cases h), fun j hj => ⟨g, 0, rfl, fun i u hu => ?_⟩⟩
    have hi : i < sz := by rw [← hsz _ (List.getElem_mem hj)]; exact (List.getElem?_eq_some_iff.1 hu).1
    have hlt : j * sz + i < l.length * sz := by
      have : (j + 1) * sz ≤ l.length * sz := Nat.mul_le_mul_right _ hj
      rw [Nat.add_mul] at this; omega
    have hc := h.cells (g := g) (by rw [hv]; rfl) (j * sz + i) u
    rw [Addr.add_lit] at hc
    rw [Nat.zero_add]; rw [Nat.zero_add] at hc
    exact hc (by rw [flat_at l j i hj hsz hi]; exact hu)

end Go.Proofs.Ytlbemlodcdgakaa

/- Steps of a walk over known slots: blocks of the call's own, rows that grow, slices that came in. Conditions: none. -/
namespace Go.Proofs.Ytlbemlodcdgakaa
open Go.RowKit

/-- Block N of world w holds just these cells, and may be written. -/
def Blk (w : World) (N : Nat) (T : TypeId) (cs : Array Value) : Prop := w.heap[N]? = some (.cells cs T (0, 0))
section
variable {P : Program} {n : Nat} {m : List (Nat × Value)} {w x : World} {o : Oper} {N : Nat} {T : TypeId} {cs : Array Value}
theorem Blk.lt (h : Blk w N T cs) : N < w.heap.size := (Array.getElem?_eq_some_iff.1 h).1
theorem Blk.cell (h : Blk w N T cs) {k : Nat} {v : Value} (hk : cs[k]? = some v) : w.cell? ⟨N, k, none⟩ = some v := by
  unfold World.cell?; rw [show w.heap[N]? = _ from h]; simpa using hk
theorem Blk.frozen (h : Blk w N T cs) (k : Nat) : w.frozen? ⟨N, k, none⟩ = false := by
  unfold World.frozen?; rw [show w.heap[N]? = _ from h]; simp
theorem Blk.range (h : Blk w N T cs) (k : Nat) (l : List Value) (hl : ∀ j v, l[j]? = some v → cs[k + j]? = some v) : w.rangeAt N k l := fun j v hv => h.cell (hl j v hv)
theorem Blk.all (h : Blk w N T cs) : w.rangeAt N 0 cs.toList := fun j v hv => h.cell (by simpa using hv)
theorem Blk.kept {row : Option Nat} (h : Blk w N T cs) (hg : w.grownBy x row) (hne : row ≠ some N) : Blk x N T cs := by
  unfold Blk at *; rw [hg.block N (Array.getElem?_eq_some_iff.1 h).1 (fun e => hne e.symm)]; exact h
theorem Blk.below (h : Blk w N T cs) (hb : Below w.heap.size w x) : Blk x N T cs := by
  unfold Blk at *; rw [hb.block N (Array.getElem?_eq_some_iff.1 h).1]; exact h
theorem grown_below (hg : w.grownBy x none) : Below w.heap.size w x := ⟨hg.os, hg.tape, hg.output, hg.size, fun k hk => hg.block k hk (by simp)⟩
theorem below_grown (hb : Below w.heap.size w x) : w.grownBy x none := ⟨hb.os, hb.tape, hb.output, hb.size, fun k hk _ => hb.block k hk⟩
theorem hb_new {w0 : World} (h : Below w0.heap.size w0 w) (hg : w.grownBy x none) : Below w0.heap.size w0 x := h.grown hg h.size (fun _ e => by cases e)
theorem hb_at {w0 : World} (h : Below w0.heap.size w0 w) (hg : w.grownBy x (some N)) (hN : w0.heap.size ≤ N) : Below w0.heap.size w0 x := h.grown hg h.size (fun k e => by cases e; exact hN)
theorem hb_call {w0 : World} (h : Below w0.heap.size w0 w) (hb : Below w.heap.size w x) : Below w0.heap.size w0 x := h.trans (hb.mono h.size)
theorem hb_row {w0 : World} {B : Nat} {e : TypeId} {sz k : Nat} {v : Value} {xs : List Value} (h : Below w0.heap.size w0 w) (hr : w.ownsRow B e sz v k xs) (hB : w0.heap.size ≤ B) (hg : w.grownBy x v.ownBlock) : Below w0.heap.size w0 x :=
  h.grown hg h.size (fun k e => by have := (hr.lt k e).1; omega)

theorem row_kept_new {B : Nat} {e : TypeId} {sz k : Nat} {v : Value} {xs : List Value} (h : w.ownsRow B e sz v k xs) (hg : w.grownBy x none) : x.ownsRow B e sz v k xs :=
  h.kept hg (by cases v.ownBlock <;> simp)
theorem row_kept_at {B : Nat} {e : TypeId} {sz k : Nat} {v : Value} {xs : List Value} (h : w.ownsRow B e sz v k xs) (hg : w.grownBy x (some N)) (hne : v.ownBlock ≠ some N) : x.ownsRow B e sz v k xs := h.kept hg (.inr hne)
theorem row_ne_lt {B : Nat} {e : TypeId} {sz k : Nat} {v : Value} {xs : List Value} (h : w.ownsRow B e sz v k xs) (hN : N < B) : v.ownBlock ≠ some N := fun e => by have := (h.lt N e).1; omega
/-- Rows of two types lie apart. -/
theorem row_kept_row {B B' : Nat} {e e' : TypeId} {sz sz' k k' : Nat} {v v' : Value} {xs ys : List Value} (h : w.ownsRow B e sz v k xs) (h' : w.ownsRow B' e' sz' v' k' ys) (hg : w.grownBy x v'.ownBlock) (hne : e ≠ e') : x.ownsRow B e sz v k xs := by
  refine h.kept hg ?_
  cases hv : v.ownBlock with
  | none => exact .inl rfl
  | some g =>
    refine .inr fun e1 => ?_
    rcases h.2 with ⟨rfl, _⟩ | ⟨g1, _, _, rfl, _, hg1, _⟩
    · simp [Value.ownBlock] at hv
    · rcases h'.2 with ⟨rfl, _⟩ | ⟨g2, _, _, rfl, _, hg2, _⟩
      · simp [Value.ownBlock] at e1
      · simp [Value.ownBlock] at hv e1
        subst hv
        rw [← e1, hg1] at hg2
        simp at hg2
        exact hne hg2.2
theorem blk_part (h : Blk w N T cs) (k : Nat) {l : List Value} (hl : (cs.toList.drop k).take l.length = l) : w.rangeAt N k l := fun j v hv => by
  refine h.cell ?_
  have hj := (List.getElem?_eq_some_iff.1 hv).1
  rw [← hl, List.getElem?_take, if_pos hj, List.getElem?_drop] at hv
  simpa using hv
/-- A variable, a struct, an array that is made. -/
theorem op_new {v : Nat → Value} (hok : okOps m o.op = true) (hsel : (match o.op with | .select .. => true | _ => false) = false) (hrun : (execOp (lk m) o).run P w = .ok (.value (v w.heap.size)) (w.alloc (.cells cs T))) :
    Op1 P n m o w (fun u x => ∃ N, u = v N ∧ N = w.heap.size ∧ x.heap.size = N + 1 ∧ Blk x N T cs ∧ w.grownBy x none) :=
  (op_run hok hsel hrun).mono fun u x ⟨h1, h2⟩ => by
    subst h2
    exact ⟨w.heap.size, h1, rfl, by simp, heap_alloc_new w _, World.grownBy_alloc w _ none⟩
theorem setCell_blk (h : Blk w N T cs) (k : Nat) (v : Value) : Blk (w.setCell ⟨N, k, none⟩ v) N T (cs.setIfInBounds k v) := by
  have hlt := (Array.getElem?_eq_some_iff.1 h).1
  have hx := (Array.getElem?_eq_some_iff.1 h).2
  unfold Blk World.setCell
  simp only [Array.getElem?_modify, if_true]
  rw [show w.heap[N]? = _ from h]
  simp
theorem grown_setCell (w : World) (N k : Nat) (v : Value) : w.grownBy (w.setCell ⟨N, k, none⟩ v) (some N) := ⟨rfl, rfl, rfl, by simp [World.setCell], fun j _ hj => Below.heap_setCell w _ v j (fun e => hj (by rw [e]))⟩
/-- A store of one cell into a block of the call's own. -/
theorem op_store1 {t : TypeId} {p q : Operand} {k : Nat} {v : Value} (ho : o.op = .store t p q) (hp : ev m p = some (.pointer (some ⟨N, k, none⟩))) (hq : ev m q = some v) (h1 : v.oneCell' = true) (hs : ∀ w : World, (sizeOf t).run P w = .ok 1 w)
    (hb : Blk w N T cs) (hk : Nat.blt k cs.size = true) : Op1 P n m o w (fun _ x => Blk x N T (cs.setIfInBounds k v) ∧ x.heap.size = w.heap.size ∧ w.grownBy x (some N)) := by
  intro a ha K Q hN
  have hk' : k < cs.size := by simpa using hk
  have hc : w.cell? ⟨N, k, none⟩ = some cs[k] := hb.cell (by simp [hk'])
  have hcell : v.cells = #[v] := by cases v <;> simp_all [Value.cells, Value.oneCell']
  have hrun : (Instr.storeAt t (.pointer (some ⟨N, k, none⟩)) v).run P w = .ok () (w.setCell ⟨N, k, none⟩ v) := by
    have h2 := run_storeCells_cells (P := P) N k [v] 0 w (fun j hj => by simp at hj; subst hj; simp [hc]) (fun j hj => by simpa using hb.frozen _) (by simpa using h1)
    simp only [Nat.add_zero] at h2
    simp [Instr.storeAt, Instr.sureAddr, storeVar, hcell, hs, Sem.run_bind, h2, World.setCells]
  unfold Oper.wp execOp
  simp only [ho, ha.ev hp, ha.ev hq, Sem.run_bind, hrun, Result.andThen_ok, Sem.run_pure]
  exact hN _ _ ⟨setCell_blk hb k v, by simp [World.setCell], grown_setCell w N k v⟩
theorem setCells_blk : ∀ (vs : List Value) (w : World) (cs : Array Value) (k : Nat), Blk w N T cs → k + vs.length ≤ cs.size → Blk (w.setCells N k vs) N T (cs.toList.take k ++ vs ++ cs.toList.drop (k + vs.length)).toArray
  | [], w, cs, k, h, _ => by simpa [World.setCells] using h
  | v :: r, w, cs, k, h, hl => by
    simp only [List.length_cons] at hl
    have := setCells_blk r (w.setCell ⟨N, k, none⟩ v) (cs.setIfInBounds k v) (k + 1) (setCell_blk h k v) (by simp; omega)
    rw [World.setCells]
    have e : ((cs.setIfInBounds k v).toList.take (k + 1) ++ r ++ (cs.setIfInBounds k v).toList.drop (k + 1 + r.length)) = cs.toList.take k ++ (v :: r) ++ cs.toList.drop (k + (r.length + 1)) := by
      simp only [Array.toList_setIfInBounds]
      rw [List.take_set, List.drop_set_of_lt (by omega), show k + 1 + r.length = k + (r.length + 1) by omega]
      have : (List.take (k + 1) cs.toList).set k v = cs.toList.take k ++ [v] := by
        rw [List.take_succ_eq_append_getElem (by simp; omega)]
        have hl : (List.take k cs.toList).length = k := by simp; omega
        rw [List.set_append, hl, if_neg (by omega)]
        simp
      rw [this]; simp
    rw [List.length_cons, ← e]; exact this
/-- A store of a whole value into a block of the call's own. -/
theorem op_storeN {t : TypeId} {p q : Operand} {cells : Array Value} (ho : o.op = .store t p q) (hp : ev m p = some (.pointer (some ⟨N, 0, none⟩))) (hq : ev m q = some (.agg cells)) (h1 : cells.all (·.oneCell') = true) (hi : (P.info? t).map (·.size) = some cells.size)
    (hb : Blk w N T cs) (hk : cs.size = cells.size) : Op1 P n m o w (fun _ x => Blk x N T cells ∧ x.heap.size = w.heap.size ∧ w.grownBy x (some N)) := by
  intro a ha K Q hN
  have hthere : w.there N 0 cells.size := fun j hj => ⟨by rw [hb.cell (k := 0 + j) (v := cs[j]) (by simp [hk, hj])]; rfl, hb.frozen _⟩
  refine wp_store_mid t p q ho N 0 cells (ha.ev hp) (ha.ev hq) hthere hi h1 (hN _ _ ⟨?_, ?_, ?_⟩)
  · have := setCells_blk cells.toList w cs 0 hb (by simp [hk])
    have e : (cells.toList ++ List.drop cells.size cs.toList).toArray = cells := by rw [List.drop_eq_nil_of_le (by simp [hk])]; simp
    simp only [List.take_zero, List.nil_append, Nat.zero_add, Array.length_toList, e] at this
    exact this
  · have hsz : ∀ (vs : List Value) (k : Nat) (w : World), (w.setCells N k vs).heap.size = w.heap.size := by
      intro vs
      induction vs with
      | nil => intro k w; rfl
      | cons v r ih => intro k w; rw [World.setCells, ih]; simp [World.setCell]
    exact hsz _ _ _
  · have hg : ∀ (vs : List Value) (k : Nat) (w : World), w.grownBy (w.setCells N k vs) (some N) := by
      intro vs
      induction vs with
      | nil => intro k w; exact World.grownBy.refl _ _
      | cons v r ih => intro k w; rw [World.setCells]; exact (grown_setCell w N k v).trans (ih _ _)
    exact hg _ _ _
/-- 'append(v, news..)', v a row of the call's own. -/
theorem op_append {s q : Operand} {t : TypeId} (ho : o.op = .call { callee := .builtin .append, args := #[s, q], argTypes := #[t, t] })
    (base : Nat) (e : TypeId) {z : Value} {size bytes : Nat} (ht : P.underlying t = some (.slice e)) (hi : (P.info? e).map (fun i => (i.zero, i.size, i.bytes)) = some (some z, size, bytes))
    (hzs : z.cells.size = size) (hsz : Nat.blt 0 size = true) {v : Value} {k : Nat} {xs : List Value} (hs : ev m s = some v) (hown : w.ownsRow base e size v k xs)
    {M q' c : Nat} {ws : Array Value} {T' : TypeId} (hx : ev m q = some (.slice (some ⟨M, 0, none⟩) q' c)) (hb : Blk w M T' ws) (hl : ws.size = q' * size) (h1 : ws.all (·.oneCell') = true)
    (h63 : k + q' ≤ 9223372036854775807) (hbytes : (k + q') * bytes ≤ 140737488355328) (hbase : base ≤ w.heap.size) :
    Op1 P n m o w (fun u x => x.ownsRow base e size u (k + q') (xs ++ ws.toList) ∧ w.grownBy x v.ownBlock) := by
  intro a ha K Q hN
  obtain ⟨i0, hii, hz0, hz1, hz2⟩ := info_parts hi
  refine wp_append_own w s q t ho base e i0 z size bytes ht hii hz0 hz1 hz2 hzs (by simpa using hsz) v k xs (ha.ev hs) hown ⟨M, 0, none⟩ q' c ws.toList (ha.ev hx) (by simpa using hl) ?_ ?_ (by unfold maxLen; exact h63) hbytes hbase (fun v' w' h2 h3 _ => hN _ _ ⟨h2, h3⟩)
  · intro j u hu
    rw [Addr.add_lit, Nat.zero_add]
    exact hb.cell (by simpa using hu)
  · intro u hu
    exact (Array.all_eq_true_iff_forall_mem.1 h1) u (by simpa using hu)

/-! ### A region that draws its order begins -/
section
variable {Q : Exit → Act → World → Prop} {a : Act}
theorem drew_grown (w : World) : w.grownBy w.drew none := ⟨rfl, rfl, rfl, Nat.le_refl _, fun _ _ _ => rfl⟩
theorem dr_eq {id : Nat} {l : List Oper} (hm : P.follows .mixedOrders = true) (h : ∀ wd, w.grownBy wd none → wpAnyH P .any l.toArray (NP Q) (fun x => x = wd) l.length (Array.replicate l.length false) a wd) : (Code.region id l.toArray true).wp P Q a w :=
  dr_start (S := fun x => x = w.drew) hm rfl (h _ (drew_grown w))
theorem dr_gen {id : Nat} {l : List Oper} (S : World → Prop) (hm : P.follows .mixedOrders = true) (hS : ∀ wd, w.grownBy wd none → S wd) (h : ∀ wd, w.grownBy wd none → wpAnyH P .any l.toArray (NP Q) S l.length (Array.replicate l.length false) a wd) : (Code.region id l.toArray true).wp P Q a w :=
  dr_start hm (hS _ (drew_grown w)) (h _ (drew_grown w))
end

/-! ### Slices that came in: the value is whatever it is, its place is told by two functions -/
def blkOf : Value → Nat
  | .slice (some a) _ _ => a.block
  | _ => 0
def offOf : Value → Nat
  | .slice (some a) _ _ => a.off
  | _ => 0
variable {α : Type} {enc : α → List Value} {sz : Nat} {v : Value} {l : List α}
theorem sl_len (h : SliceOf enc sz w v l) : l.length ≤ 9223372036854775807 := by obtain ⟨_, _, _, h1, h2, _⟩ := h; omega
theorem sl_at (h : SliceOf enc sz w v l) {i : Nat} {y : α} (hy : l[i]? = some y) : w.rangeAt (blkOf v) (offOf v + i * sz) (enc y) := by
  obtain ⟨ao, cap, rfl, _, _, _, hc⟩ := h
  obtain ⟨hi, e⟩ := List.getElem?_eq_some_iff.1 hy
  obtain ⟨b, off, rfl, hr⟩ := hc i hi
  rw [← e]; exact hr
/-- 'len(v)' -/
theorem rn_len {t : TypeId} {q : Operand} (ho : o.op = .call { callee := .builtin .len, args := #[q], argTypes := #[t] }) (hq : ev m q = some v) {e : TypeId} (ht : P.underlying t = some (.slice e)) (h : SliceOf enc sz w v l) : (execOp (lk m) o).run P w = .ok (.value (.int .i64 (l.length : Nat))) w := by
  obtain ⟨ao, cap, rfl, _, _, _, hc⟩ := h
  unfold execOp
  simp [ho, resolve, invoke, builtin, Sem.run_bind, lk_ev hq, Builtin.len_, goInt, run_underlying ht]
theorem rn_lenOwn {t : TypeId} {q : Operand} {base : Nat} {e : TypeId} {k : Nat} {xs : List Value} (ho : o.op = .call { callee := .builtin .len, args := #[q], argTypes := #[t] }) (hq : ev m q = some v) {e' : TypeId} (ht : P.underlying t = some (.slice e')) (h : w.ownsRow base e sz v k xs) : (execOp (lk m) o).run P w = .ok (.value (.int .i64 (k : Nat))) w := by
  rcases h.2 with ⟨rfl, rfl⟩ | ⟨g, cap, cur, rfl, _⟩
  · unfold execOp
    simp [ho, resolve, invoke, builtin, Sem.run_bind, lk_ev hq, Builtin.len_, goInt, run_underlying ht]
  · unfold execOp
    simp [ho, resolve, invoke, builtin, Sem.run_bind, lk_ev hq, Builtin.len_, goInt, run_underlying ht]
/-- 'v[i]' as an address -/
theorem rn_index {t e : TypeId} {q r : Operand} {k : IntKind} {i : Int} {j : Nat} (ho : o.op = .indexAddr t q r) (hq : ev m q = some v) (hr : ev m r = some (.int k i)) (ht : P.underlying t = some (.slice e)) (hs : ∀ w : World, (sizeOf e).run P w = .ok sz w)
    (h : SliceOf enc sz w v l) (hij : i = (j : Nat)) (hj : j < l.length) : (execOp (lk m) o).run P w = .ok (.value (.pointer (some ⟨blkOf v, offOf v + j * sz, none⟩))) w := by
  subst hij
  obtain ⟨ao, cap, rfl, _, _, _, hc⟩ := h
  obtain ⟨b, off, rfl, _⟩ := hc j hj
  have hrun : (Instr.indexAt t (.slice (some ⟨b, off, none⟩) l.length cap) (.int k j)).run P w = .ok (.pointer (some ⟨b, off + j * sz, none⟩)) w := by
    have h0 : (0 : Int) ≤ (j : Nat) ∧ ((j : Nat) : Int) < (l.length : Nat) := by omega
    simp [Instr.indexAt, asIntOf, run_underlying ht, Sem.run_bind, h0, hs, hj, Addr.add_lit]
  unfold execOp
  simp only [ho, lk_ev hq, lk_ev hr, Sem.run_bind, hrun, Result.andThen_ok, Sem.run_pure]
  rfl
/-- A slice of another type, or nil, that is read as nothing. -/
theorem sl_nil (w : World) : SliceOf enc sz w (.slice none 0 0) ([] : List α) := SliceOf.nil _ _ _
end
end Go.Proofs.Ytlbemlodcdgakaa

/- Slices that are cut, and appended from. Conditions: none. -/
namespace Go.Proofs.Ytlbemlodcdgakaa
open Go.RowKit Go.PlainAid

theorem SliceOf.sliced {α : Type} {enc : α → List Value} {sz : Nat} {w : World} {ao : Option Addr} {n cap : Nat} {l : List α} (h : SliceOf enc sz w (.slice ao n cap) l) (lo hi : Nat) (h1 : lo ≤ hi) (h2 : hi ≤ l.length) :
    SliceOf enc sz w (sliced ao lo hi cap sz) ((l.take hi).drop lo) := by
  obtain ⟨ao', cap', hv, h1', h2', h3, h4⟩ := h
  injection hv with e1 e2 e3
  subst e1 e2 e3
  have hl : ((l.take hi).drop lo).length = hi - lo := by rw [List.length_drop, List.length_take]; omega
  unfold Go.sliced
  cases ao with
  | none =>
    obtain ⟨e0, e1⟩ := h3 rfl
    subst e1
    have : hi = 0 := by omega
    have : lo = 0 := by omega
    subst lo hi
    exact ⟨none, 0, by simp, by simp, by omega, fun _ => ⟨by simp, rfl⟩, fun j hj => absurd hj (by simp)⟩
  | some a =>
    by_cases hc : cap = lo
    · subst hc
      have : hi = cap := by omega
      subst this
      refine ⟨some a, 0, by rw [hl]; simp, by rw [hl]; omega, by omega, fun h => (by cases h), fun j hj => absurd hj (by rw [hl]; omega)⟩
    · refine ⟨some (a.add (lo * sz)), cap - lo, by rw [hl, if_neg hc]; rfl, by rw [hl]; omega, by omega, fun h => (by cases h), fun j hj => ?_⟩
      rw [hl] at hj
      obtain ⟨b, off, e, hr⟩ := h4 (lo + j) (by omega)
      cases e
      refine ⟨b, off + lo * sz, by rw [Addr.add_lit], ?_⟩
      rw [show off + lo * sz + j * sz = off + (lo + j) * sz by rw [Nat.add_mul]; omega, List.getElem_drop, List.getElem_take]
      exact hr
theorem wp_append_src {P : Program} {w : World} {o : Oper} {a : Act} {K : Act → World → Prop} {Q : Exit → Act → World → Prop} (s x : Operand) (t : TypeId)
    (ho : o.op = .call { callee := .builtin .append, args := #[s, x], argTypes := #[t, t] })
    (base : Nat) (e : TypeId) (i : TypeInfo) (z : Value) (size bytes : Nat) (ht : P.underlying t = some (.slice e)) (hi : P.info? e = some i) (hz : i.zero = some z)
    (hsize : i.size = size) (hby : i.bytes = bytes) (hzs : z.cells.size = size) (hsz : 0 < size)
    (v : Value) (n : Nat) (xs : List Value) (hs : a.eval s = v) (hown : w.ownsRow base e size v n xs)
    {α : Type} (enc : α → List Value) (l : List α) (vs : Value) (hx : a.eval x = vs) (hsl : SliceOf enc size w vs l) (hen : ∀ y ∈ l, (enc y).length = size ∧ ∀ u ∈ enc y, u.oneCell' = true)
    (h63 : n + l.length ≤ maxLen) (hbytes : (n + l.length) * bytes ≤ 140737488355328) (hbase : base ≤ w.heap.size)
    (h : ∀ v' w', w'.ownsRow base e size v' (n + l.length) (xs ++ l.flatMap enc) → w.grownBy w' v.ownBlock → K (a.put o.dst v') w') : o.wp P a w K Q := by
  obtain ⟨ao, cap, rfl, _, _, hnil, hcell⟩ := hsl
  have hl := flat_len l (fun y hy => (hen y hy).1)
  cases ao with
  | none =>
    obtain ⟨e0, e1⟩ := hnil rfl
    obtain rfl : l = [] := List.eq_nil_of_length_eq_zero e0
    subst e1
    have hrun := run_append_owned_none (P := P) (w := w) base t o.type e i size ht hi v n xs hown
    have hx' : a.eval x = .slice none 0 0 := by simpa using hx
    unfold Oper.wp
    simp [execOp, ho, resolve, invoke, builtin, hs, hx', hrun, Result.andThen]
    exact h v w (by simpa using hown) (World.grownBy.refl _ _)
  | some ad =>
    refine wp_append_own _ s x t ho base e i z size bytes ht hi hz hsize hby hzs hsz v n xs hs hown ad l.length cap (l.flatMap enc) hx hl ?_ ?_ h63 hbytes hbase (fun v' w' h1 h2 _ => h v' w' h1 h2)
    · intro j u hu
      have hj : j < l.length * size := by rw [← hl]; exact (List.getElem?_eq_some_iff.1 hu).1
      have hq : j / size < l.length := Nat.div_lt_of_lt_mul (by rw [Nat.mul_comm]; exact hj)
      obtain ⟨b, off, hb, hr⟩ := hcell _ hq
      cases hb
      rw [Addr.add_lit]
      have hdm : j / size * size + j % size = j := by rw [Nat.mul_comm]; exact Nat.div_add_mod j size
      have hr' := hr (j % size) u
      rw [Nat.add_assoc, hdm] at hr'
      refine hr' ?_
      rw [← flat_at l (j / size) (j % size) hq (fun y hy => (hen y hy).1) (Nat.mod_lt _ hsz), hdm]; exact hu
    · intro u hu
      obtain ⟨y, hy, huy⟩ := List.mem_flatMap.1 hu
      exact (hen y hy).2 u huy
end Go.Proofs.Ytlbemlodcdgakaa

/- Steps of a walk over known slots: slices cut, appended from, rows as lists, closures, structs compared. Conditions: none. -/
namespace Go.Proofs.Ytlbemlodcdgakaa
open Go.RowKit

section
variable {P : Program} {n : Nat} {m : List (Nat × Value)} {w x : World} {o : Oper} {N : Nat} {T : TypeId} {cs : Array Value} {α : Type} {enc : α → List Value} {sz : Nat} {v : Value} {l : List α}

/-- A slice of a slice. -/
def subV (v : Value) (lo hi sz : Nat) : Value :=
  match v with
  | .slice ao _ cap => sliced ao lo hi cap sz
  | x => x
theorem sl_sub (h : SliceOf enc sz w v l) (lo hi : Nat) (h1 : lo ≤ hi) (h2 : hi ≤ l.length) : SliceOf enc sz w (subV v lo hi sz) ((l.take hi).drop lo) := by
  obtain ⟨ao, cap, rfl, h3, h4, h5, h6⟩ := h
  exact SliceOf.sliced ⟨ao, cap, rfl, h3, h4, h5, h6⟩ lo hi h1 h2
theorem sl_take (h : SliceOf enc sz w v l) (k : Nat) (h2 : k ≤ l.length) : SliceOf enc sz w (subV v 0 k sz) (l.take k) := sl_sub h 0 k (Nat.zero_le _) h2
theorem sl_drop (h : SliceOf enc sz w v l) (k : Nat) (h2 : k ≤ l.length) : SliceOf enc sz w (subV v k l.length sz) (l.drop k) := by
  have := sl_sub h k l.length h2 (Nat.le_refl _); rwa [List.take_length] at this
theorem rn_sliceTo {t e : TypeId} {q r : Operand} {k : IntKind} {i : Int} {j : Nat} (ho : o.op = .slice t q none (some r) none) (hq : ev m q = some v) (hr : ev m r = some (.int k i)) (ht : P.underlying t = some (.slice e)) (hs : ∀ w : World, (sizeOf e).run P w = .ok sz w)
    (h : SliceOf enc sz w v l) (hij : i = (j : Nat)) (hj : j ≤ l.length) : (execOp (lk m) o).run P w = .ok (.value (subV v 0 j sz)) w := by
  subst hij
  obtain ⟨ao, cap, rfl, h3, h4, h5, h6⟩ := h
  have he : P.elem t = e := by simp [Program.elem, ht]
  have hrun : (Instr.slice t (.slice ao l.length cap) none (some (.int k j)) none).run P w = .ok (sliced ao 0 j cap sz) w := by
    rw [run_slice_h w t ao l.length cap (by rw [he]; exact ht) k j (by omega) (by omega), he, hs]; rfl
  unfold execOp
  simp only [ho, Option.map_some, Option.map_none, lk_ev hq, lk_ev hr, Instr.sliceAt, Sem.run_bind, run_underlying ht, Result.andThen_ok, hrun, Sem.run_pure]
  rfl
theorem rn_sliceFrom {t e : TypeId} {q r : Operand} {k : IntKind} {i : Int} {j : Nat} (ho : o.op = .slice t q (some r) none none) (hq : ev m q = some v) (hr : ev m r = some (.int k i)) (ht : P.underlying t = some (.slice e)) (hs : ∀ w : World, (sizeOf e).run P w = .ok sz w)
    (h : SliceOf enc sz w v l) (hij : i = (j : Nat)) (hj : j ≤ l.length) : (execOp (lk m) o).run P w = .ok (.value (subV v j l.length sz)) w := by
  subst hij
  obtain ⟨ao, cap, rfl, h3, h4, h5, h6⟩ := h
  have he : P.elem t = e := by simp [Program.elem, ht]
  have hrun : (Instr.slice t (.slice ao l.length cap) (some (.int k j)) none none).run P w = .ok (sliced ao j l.length cap sz) w := by
    rw [run_slice_l w t ao l.length cap (by rw [he]; exact ht) k j (by omega) (by omega), he, hs]; rfl
  unfold execOp
  simp only [ho, Option.map_some, Option.map_none, lk_ev hq, lk_ev hr, Instr.sliceAt, Sem.run_bind, run_underlying ht, Result.andThen_ok, hrun, Sem.run_pure]
  rfl
/-- 'append(v, src..)', v a row of the call's own, src any slice that is read. -/
theorem op_appendSrc {s q : Operand} {t : TypeId} (ho : o.op = .call { callee := .builtin .append, args := #[s, q], argTypes := #[t, t] })
    (base : Nat) (e : TypeId) {z : Value} {size bytes : Nat} (ht : P.underlying t = some (.slice e)) (hi : (P.info? e).map (fun i => (i.zero, i.size, i.bytes)) = some (some z, size, bytes))
    (hzs : z.cells.size = size) (hsz : Nat.blt 0 size = true) {u : Value} {k : Nat} {xs : List Value} (hs : ev m s = some u) (hown : w.ownsRow base e size u k xs)
    (hx : ev m q = some v) (hsl : SliceOf enc size w v l) (hen : ∀ y ∈ l, (enc y).length = size ∧ ∀ u ∈ enc y, u.oneCell' = true)
    (h63 : k + l.length ≤ 9223372036854775807) (hbytes : (k + l.length) * bytes ≤ 140737488355328) (hbase : base ≤ w.heap.size) :
    Op1 P n m o w (fun r x => x.ownsRow base e size r (k + l.length) (xs ++ l.flatMap enc) ∧ w.grownBy x u.ownBlock) := by
  intro a ha K Q hN
  obtain ⟨i0, hii, hz0, hz1, hz2⟩ := info_parts hi
  exact wp_append_src s q t ho base e i0 z size bytes ht hii hz0 hz1 hz2 hzs (by simpa using hsz) u k xs (ha.ev hs) hown enc l v (ha.ev hx) hsl hen (by unfold maxLen; exact h63) hbytes hbase (fun v' w' h2 h3 => hN _ _ ⟨h2, h3⟩)
theorem row_of_blk {base : Nat} (h : Blk w N T #[]) (hb : base ≤ N) (sz : Nat) : w.ownsRow base T sz (.slice (some ⟨N, 0, none⟩) 0 0) 0 [] :=
  ⟨by simp, .inr ⟨N, 0, #[], rfl, hb, h, Nat.le_refl _, by decide, by simp, by simp⟩⟩
theorem row_of_blkL {base : Nat} (h : Blk w N T #[]) (hb : base ≤ N) (sz : Nat) (enc : α → List Value) : w.ownsRow base T sz (.slice (some ⟨N, 0, none⟩) 0 0) ([] : List α).length (([] : List α).flatMap enc) := row_of_blk h hb sz
theorem row_nilL (w : World) (base : Nat) (T : TypeId) (sz : Nat) (enc : α → List Value) : w.ownsRow base T sz (.slice none 0 0) ([] : List α).length (([] : List α).flatMap enc) := World.ownsRow_nil _ _ _ _
theorem row_push {base : Nat} {u : Value} {y : α} {k : Nat} {xs : List Value} (h : w.ownsRow base T sz u (l.length + k) (l.flatMap enc ++ xs)) (hk : k = 1) (he : enc y = xs) : w.ownsRow base T sz u (l ++ [y]).length ((l ++ [y]).flatMap enc) := by
  subst hk he; simpa using h
theorem row_app {base : Nat} {u : Value} {l' : List α} (h : w.ownsRow base T sz u (l.length + l'.length) (l.flatMap enc ++ l'.flatMap enc)) : w.ownsRow base T sz u (l ++ l').length ((l ++ l').flatMap enc) := by
  simpa using h
theorem row_lows {base base' : Nat} {u : Value} {k : Nat} {xs : List Value} (h : w.ownsRow base T sz u k xs) (hb : base' ≤ base) : w.ownsRow base' T sz u k xs := by
  refine ⟨h.1, ?_⟩
  rcases h.2 with h2 | ⟨g, c, r, e, hg, h3⟩
  · exact .inl h2
  · exact .inr ⟨g, c, r, e, by omega, h3⟩
theorem row_eq {base : Nat} {u : Value} {l' : List α} (h : w.ownsRow base T sz u l.length (l.flatMap enc)) (e : l = l') : w.ownsRow base T sz u l'.length (l'.flatMap enc) := by subst e; exact h
theorem row_sl {base : Nat} (h : w.ownsRow base T sz v l.length (l.flatMap enc)) (hsz : ∀ y : α, (enc y).length = sz) : SliceOf enc sz w v l := SliceOf.own h (fun y _ => hsz y)
theorem row_fresh {base : Nat} {k : Nat} {xs : List Value} (h : w.ownsRow base T sz v k xs) (hN : N = w.heap.size) : v.ownBlock ≠ some N := fun e => by have := (h.lt N e).2; omega
/-- A call of a function value that has captured variables. -/
theorem op_callV {c : Call} {q : Operand} {f : FuncId} {args caps : Array Value} {E : Ending → World → Prop} {R : Value → World → Prop} (ho : o.op = .call c) (hc : c.callee = .value q) (hf : ev m q = some (.func (.func f) #[] caps))
    (hok : okOps m o.op = true) (hargs : c.args.map (lk m) ++ caps = args) (hcall : (callFunc f args).run P w = .ok (.enter f args) w) (h : Calls P f args w E) (hE : ∀ e w', E e w' → ∃ v, e = .returned v ∧ R v w') : Op1 P n m o w R := by
  intro a ha K Q hN
  have he : execOp a.eval o = execOp (lk m) o := execOp_congr o (fun cs b e => by simp [e] at ho) (fun x hx => ha.lk (Array.all_eq_true_iff_forall_mem.1 hok x hx))
  unfold Oper.wp
  rw [he]
  have hfx : lk m q = .func (.func f) #[] caps := by simp [lk, hf]
  have : (execOp (lk m) o).run P w = .ok (.enter f args) w := by
    simp only [execOp, ho, resolve, hc, hfx, Deferred.ofValue, Sem.run_bind, Sem.run_pure, Result.andThen_ok, invoke]
    simp only [Array.empty_append, hargs]
    exact hcall
  rw [this, Oper.upon_enter]
  refine h.mono fun e w' he => ?_
  obtain ⟨v, rfl, hv⟩ := hE e w' he
  exact hN v w' hv
/-- Structs compared. -/
theorem rn_eqS {T T' : TypeId} {q r : Operand} {a b : Array Value} {c : Bool} (ho : o.op = .binOp .eql T q r T') (hq : ev m q = some (.agg a)) (hr : ev m r = some (.agg b)) (hg : P.eqGuardType P.depth T = false) (h : (binOp .eql T (.agg a) (.agg b)).run P w = .ok (.bool c) w) : (execOp (lk m) o).run P w = .ok (.value (.bool c)) w := by
  unfold execOp
  have h0 : (eqGuard .eql T q r (.agg a) (.agg b)).run P w = .ok () w := by
    simp [eqGuard, Sem.run_bind, run_program, hg]
  simp only [ho, lk_ev hq, lk_ev hr, Sem.run_bind, h0, h, Result.andThen_ok, Sem.run_pure]
theorem rn_neS {T T' : TypeId} {q r : Operand} {a b : Array Value} {c : Bool} (ho : o.op = .binOp .neq T q r T') (hq : ev m q = some (.agg a)) (hr : ev m r = some (.agg b)) (hg : P.eqGuardType P.depth T = false) (h : (binOp .eql T (.agg a) (.agg b)).run P w = .ok (.bool c) w) : (execOp (lk m) o).run P w = .ok (.value (.bool !c)) w := by
  unfold execOp
  have h0 : (eqGuard .neq T q r (.agg a) (.agg b)).run P w = .ok () w := by
    simp [eqGuard, Sem.run_bind, run_program, hg]
  have h1 : (binOp .neq T (.agg a) (.agg b)).run P w = .ok (.bool !c) w := by
    have h2 : (Op.equal T (.agg a) (.agg b)).run P w = .ok c w := by
      cases h3 : (Op.equal T (.agg a) (.agg b)).run P w with
      | ok y w1 =>
        simp only [binOp, Sem.run_bind, h3, Result.andThen_ok, Sem.run_pure, Result.ok.injEq, Value.bool.injEq] at h
        rw [h.1, h.2]
      | halt y w1 => simp [binOp, Sem.run_bind, h3] at h
    simp only [binOp, Sem.run_bind, h2, Result.andThen_ok, Sem.run_pure]
  simp only [ho, lk_ev hq, lk_ev hr, Sem.run_bind, h0, h1, Result.andThen_ok, Sem.run_pure]
/-- A struct as the result. -/
theorem co_retC {Q : Exit → Act → World → Prop} {a : Act} {fn : Func} {E : Ending → World → Prop} {t : Nat} {T' : TypeId} {d : TypeDesc} (hs : Slots n m a) (hr : fn.results = #[.cell t T']) (ht : m.lookup t = some (.pointer (some ⟨N, 0, none⟩))) (hb : Blk w N T cs)
    (hd : P.underlying T' = some d) (hrow : d.isRow = true) (hi : (P.info? T').map (·.size) = some cs.size) (h : E (.returned (.agg cs)) w) : bodyPost P fn E .ret a w := by
  have h1 := hs.look t _ ht
  have hl := run_loadVar_mid w N 0 T' cs.toList d hb.all hd hrow (by simpa using hi)
  have hrun : (results fn a.tmps).run P w = .ok (.agg cs) w := by
    have h1' : (a.tmps[t]?).getD undef = .pointer (some ⟨N, 0, none⟩) := by rw [← h1, Array.getD_eq_getD_getElem?]
    simp [results, hr, h1', asAddr, hl, Sem.run_bind]
  exact bodyPost_ret hrun hs.defers h
end
end Go.Proofs.Ytlbemlodcdgakaa

/- Drawn regions in which several operations may come up: each way for itself. Conditions: none. -/
namespace Go.Proofs.Ytlbemlodcdgakaa
open Go.RowKit

section
variable {P : Program} {n : Nat} {m : List (Nat × Value)} {w : World} {o : Oper} {ops : Array Oper} {Q : Exit → Act → World → Prop} {R : Value → World → Prop} {md : Region.Mode} {S : World → Prop} {fuel i d : Nat} {listed : Array Bool} {a : Act}
def AllW (P : Program) (md : Region.Mode) (ops : Array Oper) (Q : Exit → Act → World → Prop) (S : World → Prop) (fuel : Nat) (listed : Array Bool) (a : Act) (w : World) : List Nat → Prop
  | [] => True
  | i :: r => wpOp P ops (NP Q) i (fun a' w' => S w' ∧ wpAnyH P md ops (NP Q) S fuel (listed.setIfInBounds i true) a' w') a w ∧ AllW P md ops Q S fuel listed a w r
theorem AllW.all : ∀ (rs : List Nat), AllW P md ops Q S fuel listed a w rs → ∀ i ∈ rs, wpOp P ops (NP Q) i (fun a' w' => S w' ∧ wpAnyH P md ops (NP Q) S fuel (listed.setIfInBounds i true) a' w') a w
  | [], _, _, h => by cases h
  | i :: r, h, j, hj => by
    rcases List.mem_cons.1 hj with rfl | hj
    · exact h.1
    · exact AllW.all r h.2 j hj
/-- Several may come up. -/
theorem dr_many (rs : List Nat) (hr : Region.ready md ops listed = rs) (hne : rs ≠ []) (h : AllW P md ops Q S fuel listed a w rs) : wpAnyH P md ops (NP Q) S (fuel + 1) listed a w := wpAnyH_all hr hne (AllW.all rs h)
theorem dr_op (hs : Slots n m a) (ho : ops[i]? = some o) (hw : wantB m ops o = some true) (hd : o.dst = some d) (hdn : Nat.blt d n = true) (h1 : Op1 P n m o w R) (hS : ∀ v w', R v w' → S w')
    (h : ∀ v w' a', R v w' → Slots n ((d, v) :: m) a' → wpAnyH P md ops (NP Q) S fuel (listed.setIfInBounds i true) a' w') : wpOp P ops (NP Q) i (fun a' w' => S w' ∧ wpAnyH P md ops (NP Q) S fuel (listed.setIfInBounds i true) a' w') a w := by
  unfold wpOp
  simp only [ho, hs.wants hw, if_true]
  exact .inl (h1 a hs _ _ fun v w' hv => ⟨hS v w' hv, h v w' _ hv (by rw [hd]; exact hs.put (by simpa using hdn))⟩)
/-- One that yields v and leaves the world as it is. -/
theorem dr_opVal {v : Value} (hs : Slots n m a) (ho : ops[i]? = some o) (hw : wantB m ops o = some true) (hd : o.dst = some d) (hdn : Nat.blt d n = true) (hok : okOps m o.op = true) (hsel : (match o.op with | .select .. => true | _ => false) = false) (hrun : (execOp (lk m) o).run P w = .ok (.value v) w) (hS : S w)
    (h : ∀ a', Slots n ((d, v) :: m) a' → wpAnyH P md ops (NP Q) S fuel (listed.setIfInBounds i true) a' w) : wpOp P ops (NP Q) i (fun a' w' => S w' ∧ wpAnyH P md ops (NP Q) S fuel (listed.setIfInBounds i true) a' w') a w :=
  dr_op hs ho hw hd hdn (op_run hok hsel hrun) (fun _ _ ⟨_, h2⟩ => by subst h2; exact hS) (fun _ _ a' ⟨h1, h2⟩ hs' => by subst h1 h2; exact h a' hs')
end
theorem row_one {w : World} {B sz k : Nat} {T : TypeId} {v : Value} {xs : List Value} (h : w.ownsRow B T sz v k xs) : v.oneCell' = true := by
  rcases h.2 with ⟨rfl, _⟩ | ⟨g, cap, cur, rfl, _⟩ <;> rfl
theorem sl_one {α : Type} {enc : α → List Value} {sz : Nat} {w : World} {v : Value} {l : List α} (h : SliceOf enc sz w v l) : v.oneCell' = true := by
  obtain ⟨ao, cap, rfl, _⟩ := h; rfl
theorem all_nil : ([] : List Value).toArray.all (·.oneCell') = true := by simp
theorem all_cons {u : Value} {l : List Value} (h : u.oneCell' = true) (hl : l.toArray.all (·.oneCell') = true) : (u :: l).toArray.all (·.oneCell') = true := by
  simp only [List.all_toArray, List.all_cons, Bool.and_eq_true] at hl ⊢
  exact ⟨h, hl⟩
/-- A block of known cells, as a row of its own. -/
theorem row_of_cells {α : Type} {enc : α → List Value} {sz base N : Nat} {w : World} {T : TypeId} {cs : Array Value} (l : List α) (h : Blk w N T cs) (hb : base ≤ N) (hl : cs.toList = l.flatMap enc) (hs : cs.size = l.length * sz) (hm : l.length ≤ maxLen) :
    w.ownsRow base T sz (.slice (some ⟨N, 0, none⟩) l.length l.length) l.length (l.flatMap enc) := by
  have hcs : cs.toList.length = l.length * sz := by simpa using hs
  refine ⟨by rw [← hl, hcs], .inr ⟨N, l.length, cs, rfl, hb, h, Nat.le_refl _, hm, hs, ?_⟩⟩
  rw [← hl, List.take_of_length_le (by omega)]
/-- A pointer. -/
abbrev pt (b o : Nat) : Value := .pointer (some ⟨b, o, none⟩)
/-! ### Short forms: what follows by computing alone stands behind. -/
section
variable {P : Program} {n : Nat} {m : List (Nat × Value)} {w : World} {o : Oper} {ops : Array Oper} {rest : List Oper} {Q : Exit → Act → World → Prop} {R : Value → World → Prop} {md : Region.Mode} {S : World → Prop} {fuel d : Nat} {listed : Array Bool} {a : Act} {v : Value}
theorem pk (hs : Slots n m a) (hd : o.dst = some d) (hrun : (execOp (lk m) o).run P w = .ok (.value v) w) (h : ∀ a', Slots n ((d, v) :: m) a' → wpList P ops Q rest a' w)
    (hg : wantB m ops o = some true := by rfl) (hdn : Nat.blt d n = true := by rfl) (hok : okOps m o.op = true := by kernel_rfl) (hsel : (match o.op with | .select .. => true | _ => false) = false := by kernel_rfl) : wpList P ops Q (o :: rest) a w := pl_val hs hg hd hdn hok hsel hrun h
theorem pk0 (hs : Slots n m a) (hd : o.dst = some d) (h : ∀ a', Slots n ((d, v) :: m) a' → wpList P ops Q rest a' w)
    (hg : wantB m ops o = some true := by rfl) (hdn : Nat.blt d n = true := by rfl) (hok : okOps m o.op = true := by kernel_rfl) (hsel : (match o.op with | .select .. => true | _ => false) = false := by kernel_rfl) (hrun : (execOp (lk m) o).run P w = .ok (.value v) w := by kernel_rfl) : wpList P ops Q (o :: rest) a w := pl_val hs hg hd hdn hok hsel hrun h
theorem pw (hs : Slots n m a) (hd : o.dst = some d) (h1 : Op1 P n m o w R) (h : ∀ v w' a', R v w' → Slots n ((d, v) :: m) a' → wpList P ops Q rest a' w') (hg : wantB m ops o = some true := by rfl) (hdn : Nat.blt d n = true := by rfl) : wpList P ops Q (o :: rest) a w := pl_want hs hg hd hdn h1 h
theorem pwD (hs : Slots n m a) (hd : o.dst = none) (h1 : Op1 P n m o w R) (h : ∀ v w' a', R v w' → Slots n m a' → wpList P ops Q rest a' w') (hg : wantB m ops o = some true := by rfl) : wpList P ops Q (o :: rest) a w := pl_doW hs hg hd h1 h
theorem psk (hs : Slots n m a) (hd : o.dst = some d) (h : ∀ a', Slots n ((d, undef) :: m) a' → wpList P ops Q rest a' w) (hg : wantB m ops o = some false := by rfl) (hdn : Nat.blt d n = true := by rfl) : wpList P ops Q (o :: rest) a w := pl_skip hs hg hd hdn h
theorem dk (i : Nat) (hs : Slots n m a) (ho : ops[i]? = some o) (hd : o.dst = some d) (hS : S w) (hrun : ∀ w, S w → (execOp (lk m) o).run P w = .ok (.value v) w) (h : ∀ a', Slots n ((d, v) :: m) a' → wpAnyH P md ops (NP Q) S fuel (listed.setIfInBounds i true) a' w)
    (hsel : Region.noSelect ops = true := by kernel_rfl) (hf : Region.free md ops listed i = true := by kernel_rfl) (hr : (Region.ready md ops listed).contains i = true := by kernel_rfl) (hw : wantB m ops o = some true := by rfl) (hdn : Nat.blt d n = true := by rfl) (hok : okOps m o.op = true := by kernel_rfl) : wpAnyH P md ops (NP Q) S (fuel + 1) listed a w := dr_take hs ho hsel hf hr hw hd hdn hS hok hrun h
theorem dk0 (i : Nat) (hs : Slots n m a) (ho : ops[i]? = some o) (hd : o.dst = some d) (hS : S w) (h : ∀ a', Slots n ((d, v) :: m) a' → wpAnyH P md ops (NP Q) S fuel (listed.setIfInBounds i true) a' w)
    (hsel : Region.noSelect ops = true := by kernel_rfl) (hf : Region.free md ops listed i = true := by kernel_rfl) (hr : (Region.ready md ops listed).contains i = true := by kernel_rfl) (hw : wantB m ops o = some true := by rfl) (hdn : Nat.blt d n = true := by rfl) (hok : okOps m o.op = true := by kernel_rfl) (hrun : ∀ w, S w → (execOp (lk m) o).run P w = .ok (.value v) w := by intro _ _; kernel_rfl) : wpAnyH P md ops (NP Q) S (fuel + 1) listed a w := dr_take hs ho hsel hf hr hw hd hdn hS hok hrun h
theorem d1 (i : Nat) (hs : Slots n m a) (ho : ops[i]? = some o) (hd : o.dst = some d) (h1 : Op1 P n m o w R) (hS : ∀ v w', R v w' → S w') (h : ∀ v w' a', R v w' → Slots n ((d, v) :: m) a' → wpAnyH P md ops (NP Q) S fuel (listed.setIfInBounds i true) a' w')
    (hr : Region.ready md ops listed = [i] := by kernel_rfl) (hw : wantB m ops o = some true := by rfl) (hdn : Nat.blt d n = true := by rfl) : wpAnyH P md ops (NP Q) S (fuel + 1) listed a w := dr_one hs ho hr hw hd hdn h1 hS h
theorem d1D (i : Nat) (hs : Slots n m a) (ho : ops[i]? = some o) (hd : o.dst = none) (h1 : Op1 P n m o w R) (hS : ∀ v w', R v w' → S w') (h : ∀ v w' a', R v w' → Slots n m a' → wpAnyH P md ops (NP Q) S fuel (listed.setIfInBounds i true) a' w')
    (hr : Region.ready md ops listed = [i] := by kernel_rfl) (hw : wantB m ops o = some true := by rfl) : wpAnyH P md ops (NP Q) S (fuel + 1) listed a w := dr_oneDo hs ho hr hw hd h1 hS h
end
end Go.Proofs.Ytlbemlodcdgakaa

/- Steps of a walk over known slots: rows and blocks of other types lie apart; three results, the first one a struct in a cell. Conditions: none. -/
namespace Go.Proofs.Ytlbemlodcdgakaa
open Go.RowKit
section
variable {P : Program} {n : Nat} {m : List (Nat × Value)} {w x : World} {N : Nat} {T : TypeId} {cs : Array Value}
theorem own_neT {B sz k : Nat} {e : TypeId} {v : Value} {xs : List Value} (h : w.ownsRow B e sz v k xs) (hb : Blk w N T cs) (hT : e ≠ T) : v.ownBlock ≠ some N := fun e1 => by
  rcases h.2 with ⟨rfl, _⟩ | ⟨g, c, cur, rfl, hg, hh, _⟩
  · simp [Value.ownBlock] at e1
  · simp only [Value.ownBlock, Option.some.injEq] at e1
    subst e1
    have := hh.symm.trans hb
    simp only [Option.some.injEq, Obj.cells.injEq] at this
    exact hT this.2.1
end
end Go.Proofs.Ytlbemlodcdgakaa

/- Maps that the call makes: a list of keys and values; lookups, stores, deletes, lengths. Conditions: none. -/
namespace Go.Proofs.Ytlbemlodcdgakaa
open Go.RowKit

section
variable {K : Type} [DecidableEq K]
/-- The place and the value of a key. -/
def lookK (a : K) : List (K × Value) → Nat → Option (Nat × Value)
  | [], _ => none
  | p :: r, i => if a = p.1 then some (i, p.2) else lookK a r (i + 1)
def getK (l : List (K × Value)) (a : K) : Option Value := (lookK a l 0).map (·.2)
theorem lookK_shift (a : K) : ∀ (l : List (K × Value)) (i j : Nat), lookK a l (i + j) = (lookK a l j).map fun p => (i + p.1, p.2)
  | [], _, _ => rfl
  | p :: r, i, j => by
    unfold lookK
    split
    · rfl
    · rw [Nat.add_assoc]; exact lookK_shift a r i (j + 1)
theorem getK_cons (p : K × Value) (l : List (K × Value)) (b : K) : getK (p :: l) b = if b = p.1 then some p.2 else getK l b := by
  simp only [getK, lookK]
  split
  · rfl
  · rw [show (0 : Nat) + 1 = 1 + 0 from rfl, lookK_shift]; cases lookK b l 0 <;> rfl
@[simp] theorem getK_nil (b : K) : getK ([] : List (K × Value)) b = none := rfl
end

section
variable {K : Type}
variable {P : Program} {n : Nat} {m : List (Nat × Value)} {w x : World} {o : Oper} {B : Nat} {l : List (K × Value)} {kv : K → Value} {kt e t : TypeId} {q r : Operand} {a : K}
/-- Block B is a map that holds just these entries. -/
def MapB (kv : K → Value) (w : World) (B : Nat) (l : List (K × Value)) : Prop :=
  ∃ es clock, w.heap[B]? = some (.map es clock) ∧ es.toList.map (fun e => (e.key, e.val)) = l.map (fun p => (kv p.1, p.2)) ∧ (l.map (·.1)).Nodup ∧ (es.toList.map (·.born)).Nodup ∧ ∀ e ∈ es.toList, e.born < clock
theorem MapB.lt (h : MapB kv w B l) : B < w.heap.size := by obtain ⟨_, _, h, _⟩ := h; exact (Array.getElem?_eq_some_iff.1 h).1
theorem MapB.keys (h : MapB kv w B l) : (l.map (·.1)).Nodup := by obtain ⟨_, _, _, _, h, _⟩ := h; exact h
theorem MapB.kept {row : Option Nat} (h : MapB kv w B l) (hg : w.grownBy x row) (hne : row ≠ some B) : MapB kv x B l := by
  obtain ⟨es, c, h1, h2⟩ := h
  exact ⟨es, c, by rw [hg.block B (Array.getElem?_eq_some_iff.1 h1).1 (fun e => hne e.symm)]; exact h1, h2⟩
theorem MapB.below (h : MapB kv w B l) (hb : Below w.heap.size w x) : MapB kv x B l := h.kept (below_grown hb) (by simp)
end

section
variable {K : Type} [DecidableEq K]
variable {P : Program} {n : Nat} {m : List (Nat × Value)} {w x : World} {o : Oper} {B : Nat} {l : List (K × Value)} {kv : K → Value} {kt e t : TypeId} {q r : Operand} {a : K}
end
end Go.Proofs.Ytlbemlodcdgakaa

/- Keys of maps: ints, texts, and structs or arrays that are compared part by part. Conditions: none. -/
namespace Go.Proofs.Ytlbemlodcdgakaa
open Go.RowKit

def arr2K (p : Int × Int) : Value := .agg #[.int .i64 p.1, .int .i64 p.2]
end Go.Proofs.Ytlbemlodcdgakaa

/- Maps that the call makes, told by a function that says what each key has (a default for those that are not there). Conditions: none. -/
namespace Go.Proofs.Ytlbemlodcdgakaa
open Go.RowKit

section
variable {K V : Type} {P : Program} {n : Nat} {m : List (Nat × Value)} {w x : World} {o : Oper} {B : Nat} {kv : K → Value} {kt e t : TypeId} {q r : Operand} {a : K} {enc : V → Value} {z : V} {g : K → V}

/-- Block B is a map; a key a has g a (z, if it is not there). -/
def MapG [DecidableEq K] (kv : K → Value) (enc : V → Value) (z : V) (w : World) (B : Nat) (g : K → V) : Prop := ∃ l, MapB kv w B l ∧ ∀ a, (getK l a).getD (enc z) = enc (g a)
variable [DecidableEq K]
theorem MapG.lt (h : MapG kv enc z w B g) : B < w.heap.size := by obtain ⟨l, h, _⟩ := h; exact h.lt
theorem MapG.kept {row : Option Nat} (h : MapG kv enc z w B g) (hg : w.grownBy x row) (hne : row ≠ some B) : MapG kv enc z x B g := by
  obtain ⟨l, h1, h2⟩ := h; exact ⟨l, h1.kept hg hne, h2⟩
theorem MapG.below (h : MapG kv enc z w B g) (hb : Below w.heap.size w x) : MapG kv enc z x B g := h.kept (below_grown hb) (by simp)
theorem MapG.row {B' : Nat} {T : TypeId} {sz k : Nat} {v : Value} {xs : List Value} (h : MapG kv enc z w B g) (hr : w.ownsRow B' T sz v k xs) : v.ownBlock ≠ some B := by
  intro e1
  obtain ⟨l, ⟨es, c, h1, _⟩, _⟩ := h
  rcases hr.2 with ⟨rfl, _⟩ | ⟨g1, _, _, rfl, _, hg1, _⟩
  · simp [Value.ownBlock] at e1
  · simp [Value.ownBlock] at e1
    subst e1; rw [h1] at hg1; cases hg1
end
end Go.Proofs.Ytlbemlodcdgakaa

/- Ranges over maps that the call made: what is still to come, whichever comes next. Conditions: none. -/
namespace Go.Proofs.Ytlbemlodcdgakaa
open Go.RowKit Go.ChangeMaps

section
variable {K : Type} {P : Program} {n : Nat} {m : List (Nat × Value)} {w x : World} {o : Oper} {B r : Nat} {l left : List (K × Value)} {kv : K → Value} {kt e t : TypeId} {q : Operand}
/-- Block r ranges over the map at B; left is still to come. -/
def IterB (kv : K → Value) (w : World) (r B : Nat) (left : List (K × Value)) : Prop :=
  ∃ es clock since seen c0, w.heap[B]? = some (.map es clock) ∧ w.heap[r]? = some (.mapIter (some B) since seen c0) ∧ since ≤ c0 ∧ c0 = clock ∧ (∀ e ∈ es.toList, e.born < since) ∧ (es.toList.map (·.born)).Nodup ∧
    (es.toList.filter fun e => !seen.contains e.born).map (fun e => (e.key, e.val)) = left.map (fun p => (kv p.1, p.2))
theorem IterB.lt (h : IterB kv w r B left) : r < w.heap.size := by obtain ⟨_, _, _, _, _, _, h, _⟩ := h; exact (Array.getElem?_eq_some_iff.1 h).1
theorem IterB.kept {row : Option Nat} (h : IterB kv w r B left) (hg : w.grownBy x row) (h1 : row ≠ some B) (h2 : row ≠ some r) : IterB kv x r B left := by
  obtain ⟨es, c, s, sn, c0, a1, a2, a3⟩ := h
  exact ⟨es, c, s, sn, c0, by rw [hg.block B (Array.getElem?_eq_some_iff.1 a1).1 (fun e => h1 e.symm)]; exact a1, by rw [hg.block r (Array.getElem?_eq_some_iff.1 a2).1 (fun e => h2 e.symm)]; exact a2, a3⟩
theorem IterB.row {B' : Nat} {T : TypeId} {sz k : Nat} {v : Value} {xs : List Value} (h : IterB kv w r B left) (hr : w.ownsRow B' T sz v k xs) : v.ownBlock ≠ some B ∧ v.ownBlock ≠ some r := by
  obtain ⟨es, c, s, sn, c0, a1, a2, _⟩ := h
  rcases hr.2 with ⟨rfl, _⟩ | ⟨g1, _, _, rfl, _, hg1, _⟩
  · simp [Value.ownBlock]
  · constructor
    · intro e1
      simp [Value.ownBlock] at e1
      subst e1; rw [a1] at hg1; cases hg1
    · intro e1
      simp [Value.ownBlock] at e1
      subst e1; rw [a2] at hg1; cases hg1
end
end Go.Proofs.Ytlbemlodcdgakaa

/- Maps that the call made, told by a function: what a key has, if anything; and ranges over them. Conditions: none. -/
namespace Go.Proofs.Ytlbemlodcdgakaa
open Go.RowKit

section
variable {K V : Type} [DecidableEq K] {P : Program} {n : Nat} {m : List (Nat × Value)} {w x : World} {o : Oper} {B r c : Nat} {kv : K → Value} {enc : V → Value} {g : K → Option V} {kt e t : TypeId} {q s : Operand} {a : K} {v : V} {left : List (K × V)}
/-- Block B is a map of at most c entries; a key a has g a. -/
def MapO (kv : K → Value) (enc : V → Value) (w : World) (B : Nat) (g : K → Option V) (c : Nat) : Prop := ∃ l, MapB kv w B l ∧ (∀ a, getK l a = (g a).map enc) ∧ l.length ≤ c
theorem MapO.lt (h : MapO kv enc w B g c) : B < w.heap.size := by obtain ⟨l, h, _⟩ := h; exact h.lt
theorem MapO.kept {row : Option Nat} (h : MapO kv enc w B g c) (hg : w.grownBy x row) (hne : row ≠ some B) : MapO kv enc x B g c := by
  obtain ⟨l, h1, h2⟩ := h; exact ⟨l, h1.kept hg hne, h2⟩
theorem MapO.below (h : MapO kv enc w B g c) (hb : Below w.heap.size w x) : MapO kv enc x B g c := h.kept (below_grown hb) (by simp)
theorem MapO.row {B' : Nat} {T : TypeId} {sz k : Nat} {u : Value} {xs : List Value} (h : MapO kv enc w B g c) (hr : w.ownsRow B' T sz u k xs) : u.ownBlock ≠ some B := by
  intro e1
  obtain ⟨l, ⟨es, c', h1, _⟩, _⟩ := h
  rcases hr.2 with ⟨rfl, _⟩ | ⟨g1, _, _, rfl, _, hg1, _⟩
  · simp [Value.ownBlock] at e1
  · simp [Value.ownBlock] at e1
    subst e1; rw [h1] at hg1; cases hg1
/-- lt holds just what g has. -/
def Full (g : K → Option V) (lt : List (K × V)) : Prop := (lt.map (·.1)).Nodup ∧ ∀ a v, g a = some v ↔ (a, v) ∈ lt
theorem getK_mem : ∀ (l : List (K × Value)) (a : K) (u : Value), (l.map (·.1)).Nodup → (getK l a = some u ↔ (a, u) ∈ l)
  | [], a, u, _ => by simp
  | p :: r, a, u, h => by
    rw [List.map_cons, List.nodup_cons] at h
    have ih := getK_mem r a u h.2
    rw [getK_cons]
    by_cases e1 : a = p.1
    · rw [if_pos e1]
      constructor
      · intro h1
        have : p.2 = u := Option.some.inj h1
        exact List.mem_cons.2 (.inl (Prod.ext e1 this.symm))
      · intro h1
        rcases List.mem_cons.1 h1 with h2 | h2
        · rw [← h2]
        · exact absurd (e1 ▸ List.mem_map_of_mem (f := (·.1)) h2) h.1
    · rw [if_neg e1, ih]
      constructor
      · exact fun h1 => List.mem_cons_of_mem _ h1
      · intro h1
        rcases List.mem_cons.1 h1 with h2 | h2
        · exact absurd (by rw [← h2]) e1
        · exact h2
omit [DecidableEq K] in
theorem typed_list (g : K → Option V) (enc : V → Value) : ∀ (l : List (K × Value)), (∀ p ∈ l, (g p.1).map enc = some p.2) → ∃ lt : List (K × V), l = lt.map (fun p => (p.1, enc p.2)) ∧ ∀ p ∈ lt, g p.1 = some p.2
  | [], _ => ⟨[], rfl, by simp⟩
  | p :: r, h => by
    obtain ⟨lt, h1, h2⟩ := typed_list g enc r (fun y hy => h y (List.mem_cons_of_mem _ hy))
    have hp := h p (by simp)
    cases hg : g p.1 with
    | none => rw [hg] at hp; cases hp
    | some v =>
      rw [hg] at hp
      have hv : enc v = p.2 := Option.some.inj hp
      refine ⟨(p.1, v) :: lt, by rw [List.map_cons, ← h1, hv], fun y hy => ?_⟩
      rcases List.mem_cons.1 hy with rfl | hy
      · exact hg
      · exact h2 y hy
theorem MapO.list (h : MapO kv enc w B g c) : ∃ lt : List (K × V), MapB kv w B (lt.map fun p => (p.1, enc p.2)) ∧ Full g lt ∧ lt.length ≤ c := by
  obtain ⟨l, h1, h2, h3⟩ := h
  have hn := h1.keys
  obtain ⟨lt, e1, e2⟩ := typed_list g enc l (fun p hp => by rw [← h2]; exact (getK_mem l p.1 p.2 hn).2 hp)
  subst e1
  have hn' : (lt.map (·.1)).Nodup := by rw [List.map_map] at hn; exact hn
  refine ⟨lt, h1, ⟨hn', fun a v => ⟨fun hg => ?_, fun hm => e2 _ hm⟩⟩, by simpa using h3⟩
  have h4 := h2 a
  rw [hg] at h4
  have h5 := (getK_mem _ a (enc v) hn).1 h4
  obtain ⟨p, hp, hq⟩ := List.mem_map.1 h5
  have e3 : p.1 = a := (Prod.mk.inj hq).1
  have e4 := e2 p hp
  rw [e3, hg] at e4
  have : v = p.2 := Option.some.inj e4
  rw [← e3, this]; exact hp
/-- A range over it, what is still to come told as keys and values. -/
def IterO (kv : K → Value) (enc : V → Value) (w : World) (r B : Nat) (left : List (K × V)) : Prop := IterB kv w r B (left.map fun p => (p.1, enc p.2))
omit [DecidableEq K] in
theorem IterO.lt (h : IterO kv enc w r B left) : r < w.heap.size := IterB.lt h
omit [DecidableEq K] in
theorem IterO.kept {row : Option Nat} (h : IterO kv enc w r B left) (hg : w.grownBy x row) (h1 : row ≠ some B) (h2 : row ≠ some r) : IterO kv enc x r B left := IterB.kept h hg h1 h2
omit [DecidableEq K] in
theorem IterO.row {B' : Nat} {T : TypeId} {sz k : Nat} {u : Value} {xs : List Value} (h : IterO kv enc w r B left) (hr : w.ownsRow B' T sz u k xs) : u.ownBlock ≠ some B ∧ u.ownBlock ≠ some r := IterB.row h hr
end
section
variable {P : Program} {n : Nat} {m : List (Nat × Value)} {w : World} {o : Oper}
/-- make of no element, room for k: the call's own row. -/
theorem op_makeOwn {α : Type} {enc : α → List Value} {p q : Operand} {base k : Nat} {t e : TypeId} {z : Value} {size by_ : Nat} (ho : o.op = .makeSlice t p q) (hp : ev m p = some (.int .i64 0)) (hq : ev m q = some (.int .i64 ((k : Nat) : Int)))
    (h1 : P.underlying t = some (.slice e)) (hi : (P.info? e).map (fun i => (i.zero, i.size, i.bytes)) = some (some z, size, by_)) (b2 : by_ * k ≤ 281474976710656) (b3 : k ≤ maxLen) (b4 : base ≤ w.heap.size) :
    Op1 P n m o w (fun u x => ∃ N, u = .slice (some ⟨N, 0, none⟩) 0 k ∧ N = w.heap.size ∧ x.ownsRow base e size (.slice (some ⟨N, 0, none⟩) 0 k) ([] : List α).length (([] : List α).flatMap enc) ∧ w.grownBy x none) := by
  intro ac ha N Q hN
  obtain ⟨i, h2, h3, h4, h5⟩ := info_parts hi
  subst h5
  obtain ⟨x, hx, k1, k2⟩ := run_make_own (P := P) w base t e i z size h1 h2 h3 h4 .i64 .i64 k b2 b3 b4
  unfold Oper.wp
  simp [execOp, ho, ha.ev hp, ha.ev hq, hx, Result.andThen]
  exact hN _ _ ⟨w.heap.size, rfl, rfl, k1, k2⟩
end
end Go.Proofs.Ytlbemlodcdgakaa

/- A world that is as another was, but for some blocks. Conditions: none. -/
namespace Go.Proofs.Ytlbemlodcdgakaa
open Go.RowKit

/-- What was there is as it was, but for the blocks that S tells. -/
structure But (S : Nat → Prop) (w w' : World) : Prop where
  os : w'.os = w.os
  tape : w'.tape = w.tape
  output : w'.output = w.output
  size : w.heap.size ≤ w'.heap.size
  block : ∀ k, k < w.heap.size → ¬ S k → w'.heap[k]? = w.heap[k]?

theorem But.refl (S : Nat → Prop) (w : World) : But S w w := ⟨rfl, rfl, rfl, Nat.le_refl _, fun _ _ _ => rfl⟩
theorem But.trans {S : Nat → Prop} {a b c : World} (h : But S a b) (k : But S b c) : But S a c :=
  ⟨k.os.trans h.os, k.tape.trans h.tape, k.output.trans h.output, Nat.le_trans h.size k.size, fun i hi hs => (k.block i (Nat.lt_of_lt_of_le hi h.size) hs).trans (h.block i hi hs)⟩
theorem But.mono {S S' : Nat → Prop} {w w' : World} (h : But S w w') (hs : ∀ k, k < w.heap.size → S k → S' k) : But S' w w' :=
  ⟨h.os, h.tape, h.output, h.size, fun k hk hn => h.block k hk (fun h1 => hn (hs k hk h1))⟩
theorem But.of_below {S : Nat → Prop} {w w' : World} (h : Below w.heap.size w w') : But S w w' := ⟨h.os, h.tape, h.output, h.size, fun k hk _ => h.block k hk⟩
theorem But.below {S : Nat → Prop} {w w' : World} {B : Nat} (h : But S w w') (hB : B ≤ w.heap.size) (hs : ∀ k, k < w.heap.size → S k → B ≤ k) : Below B w w' :=
  ⟨h.os, h.tape, h.output, h.size, fun k hk => h.block k (by omega) (fun h1 => by have := hs k (by omega) h1; omega)⟩
/-- Two steps, the second one over blocks that may be new. -/
theorem But.trans' {S S' : Nat → Prop} {a b c : World} (h : But S a b) (k : But S' b c) (hs : ∀ i, i < a.heap.size → S' i → S i) : But S a c :=
  ⟨k.os.trans h.os, k.tape.trans h.tape, k.output.trans h.output, Nat.le_trans h.size k.size, fun i hi hn => (k.block i (Nat.lt_of_lt_of_le hi h.size) (fun h1 => hn (hs i hi h1))).trans (h.block i hi hn)⟩
/-- From below B on: what turns are blocks from B on. -/
theorem below_but {S : Nat → Prop} {B : Nat} {a b c : World} (h : Below B a b) (k : But S b c) (hB : B ≤ b.heap.size) (hs : ∀ i, i < b.heap.size → S i → B ≤ i) : Below B a c := h.trans (k.below hB hs)
theorem But.alloc {S : Nat → Prop} {a w : World} (h : But S a w) (o : Obj) : But S a (w.alloc o) :=
  h.trans ⟨rfl, rfl, rfl, by simp, fun k hk _ => Below.heap_alloc _ _ _ hk⟩
theorem But.drew {S : Nat → Prop} {a w : World} (h : But S a w) : But S a w.drew := ⟨h.os, h.tape, h.output, h.size, h.block⟩
theorem But.setCell {S : Nat → Prop} {a w : World} (h : But S a w) {p : Addr} (hp : p.block < a.heap.size → S p.block) (u : Value) : But S a (w.setCell p u) :=
  h.trans' (S' := fun k => k = p.block) ⟨rfl, rfl, rfl, by simp [World.setCell], fun k _ hn => Below.heap_setCell _ _ _ _ hn⟩ (fun i hi e => by subst e; exact hp hi)
theorem But.cell {S : Nat → Prop} {w w' : World} (h : But S w w') {a : Addr} {v : Value} (hs : ¬ S a.block) (hc : w.cell? a = some v) : w'.cell? a = some v := by
  rw [World.cell?_of_block (w := w) (h.block _ (World.block_lt_of_cell? w a hc) hs)]; exact hc
theorem But.frozen {S : Nat → Prop} {w w' : World} (h : But S w w') {a : Addr} (hl : a.block < w.heap.size) (hs : ¬ S a.block) : w'.frozen? a = w.frozen? a := World.frozen?_of_block (w := w) (h.block _ hl hs)
/-- A store into one block. -/
theorem But.store {a w : World} {b : Nat} (h : But (fun x => x = b) a w) (o : Nat) (u : Value) : But (fun x => x = b) a (w.setCell ⟨b, o, none⟩ u) :=
  h.setCell (p := ⟨b, o, none⟩) (fun _ => rfl) u
end Go.Proofs.Ytlbemlodcdgakaa

/- Steps of a walk over an object's own parts: effects upon a set of blocks, appends that tell where the row went, bytes, maps looked up, rows and maps cleared. Conditions: none. -/
namespace Go.Proofs.Ytlbemlodcdgakaa
open Go.RowKit

section
variable {P : Program} {n : Nat} {m : List (Nat × Value)} {w x w0 : World} {o : Oper} {N : Nat} {T : TypeId} {cs : Array Value} {S : Nat → Prop} {v u : Value} {k : Nat}
theorem grown_butU {row : Option Nat} (hg : w.grownBy x row) : But (fun k => row = some k) w x := ⟨hg.os, hg.tape, hg.output, hg.size, fun k hk hn => hg.block k hk (fun e => hn e.symm)⟩
/-- Where a row lies: in S, or it was made since a world of n blocks. -/
def InS (S : Nat → Prop) (n : Nat) (v : Value) : Prop := ∀ k, v.ownBlock = some k → S k ∨ n ≤ k
theorem InS.nil : InS S k (.slice none 0 0) := fun i hi => by simp [Value.ownBlock] at hi
theorem InS.of (h : ∀ i, v.ownBlock = some i → S i) : InS S k v := fun i hi => .inl (h i hi)
theorem InS.low {B : Nat} {e : TypeId} {sz q : Nat} {xs : List Value} (h : w.ownsRow B e sz v q xs) (hB : k ≤ B) : InS S k v := fun i hi => .inr (Nat.le_trans hB (h.lt i hi).1)
end
section
variable {K V : Type} [DecidableEq K] {P : Program} {n : Nat} {m : List (Nat × Value)} {w x : World} {o : Oper} {B r c : Nat} {kv : K → Value} {enc : V → Value} {g : K → Option V} {kt e t : TypeId} {q s : Operand} {a : K} {v : V}
end
section
variable {P : Program} {n : Nat} {m : List (Nat × Value)} {w : World} {o : Oper} {v : Value} {α : Type} {enc : α → List Value} {l : List α} {sz base : Nat} {T : TypeId}
end
end Go.Proofs.Ytlbemlodcdgakaa

/- Package ops: Check of both. Conditions: none. -/
namespace Go.Proofs.Ytlbemlodcdgakaa
open Go.RowKit Go.PlainAid
set_option linter.unusedVariables false


abbrev OpT := ByteArray × ByteArray × Bool
def opE (o : OpT) : List Value := [.string o.1, .string o.2.1, .bool o.2.2]
theorem opE_len (o : OpT) : (opE o).length = 3 := rfl
theorem opE_one (o : OpT) : ∀ u ∈ opE o, u.oneCell' = true := by intro u hu; simp [opE] at hu; rcases hu with rfl | rfl | rfl <;> rfl
theorem eq_op (a b d e : ByteArray) (c f : Bool) (w : World) : (binOp .eql 201 (.agg #[.string a, .string b, .bool c]) (.agg #[.string d, .string e, .bool f])).run Try.prog w = .ok (.bool (a.toList == d.toList && b.toList == e.toList && c == f)) w := by
  have u := Try.underlying9
  have u' := Try.underlying4
  have hS : Try.prog.underlying 201 = some (.struct (Try.prog.fieldsOf 201)) := by kernel_rfl
  have hp : Try.prog.stoodInHeld 201 = false := by kernel_rfl
  have hf : (Try.prog.fieldsOf 201).toList.map (fun f => (f.offset, f.type)) = [(0, 9), (1, 9), (2, 4)] := by kernel_rfl
  rw [run_eql_struct, show (10000 : Nat) = 9999 + 1 from rfl, run_equalIn_agg w 9999 201 _ _ hS hp]
  simp only [Program.fieldsOf, Try.underlying201]
  go_simp
  by_cases h1 : a.toList = d.toList <;> by_cases h2 : b.toList = e.toList <;> by_cases h3 : c = f <;> simp [h1, h2, h3]
/-- What a key's check answers; an operation's; those of all, each key above the one ahead of it. -/
def keyC (k : ByteArray) : Int := if ((k.size : Nat) : Int) < 1 ∨ ((k.size : Nat) : Int) > 8 then 10 else 0
def delV (o : OpT) : Bool := o.2.2 && !(o.2.1.toList == (⟨#[]⟩ : ByteArray).toList)
def chkOp (o : OpT) : Int := if keyC o.1 ≠ 0 then keyC o.1 else if ((o.2.1.size : Nat) : Int) > 8 then 3 else if delV o = true then 4 else 0
def keyUp (p : Option ByteArray) (k : ByteArray) : Bool := match p with | some q => Op.bytesLess q.toList k.toList | none => true
def chkL : Option ByteArray → List OpT → Int
  | _, [] => 0
  | p, o :: r => if chkOp o ≠ 0 then chkOp o else if keyUp p o.1 = true then chkL (some o.1) r else 18
def chkB (c r : Int) (l : List OpT) : Int := if c < 0 ∨ c ≥ 3 then 1 else if r < 1 ∨ r > 1073741824 then 5 else if ((l.length : Nat) : Int) > 4 then 6 else chkL none l
end Go.Proofs.Ytlbemlodcdgakaa

/- Slices of any elements that came in, opened by their readings. Conditions: none. -/
namespace Go.Proofs.Ytlbemlodcdgakaa
open Go.RowKit Go.ChangeShapes Go.WideShapes Go.Deep

section
variable {H : Type} {enc : TypeId × Value → H} {P : Program} {w : World} {base : Nat} {spare : Nat → Bool} {held : Bool}
theorem open_rows {α : Type} [Inhabited α] {t e : TypeId} {fuel : Nat} {cs : List Value} {x : DataW H × List MemPlace} (E : α → List Value) (sz : Nat) (good : α → Prop)
    (ht : P.underlying t = some (.slice e)) (hC : P.cellsOf e = sz) (hpos : 0 < sz)
    (elem : ∀ n cs x, DataW.trod enc P w base spare held n e cs = some x → ∃ a : α, cs = E a ∧ good a)
    (h : DataW.trod enc P w base spare held fuel t cs = some x) :
    ∃ (l : List α) (v : Value), cs = [v] ∧ SliceOf E sz w v l ∧ ∀ a ∈ l, good a := by
  rcases open_slice ht h with ⟨hcs, _⟩ | ⟨a, len, cap, m, n, D, Pl, hcs, _, hl, hm, hmm, _, hi⟩
  · exact ⟨[], _, hcs, SliceOf.nil _ _ _, by simp⟩
  · have hlm : len ≤ m := by rw [hmm]; split <;> omega
    rw [hC] at hi
    obtain ⟨f, hf⟩ := choose_lt (α := α) (n := len) (p := fun i y => (∀ j u, (E y)[j]? = some u → w.cell? ((a.add (i * sz)).add j) = some u) ∧ good y ∧ (E y).length = sz) (fun i hilt => by
      obtain ⟨cs', hc, ht'⟩ := hi i (by omega)
      obtain ⟨y, rfl, hg⟩ := elem n cs' _ ht'
      obtain ⟨_, hcl, hat⟩ := World.cells?_some hc
      exact ⟨y, fun j u hu => by
        have hj : j < (E y).length := (List.getElem?_eq_some_iff.1 hu).1
        rw [hat j (by omega), hu], hg, hcl⟩)
    refine ⟨(List.range len).map f, _, hcs, ⟨some a, cap, by simp, by simpa using hl, by unfold maxLen at hm; omega, fun h => (by cases h), fun j hj => ?_⟩, fun y hy => ?_⟩
    · have hj' : j < len := by simpa using hj
      obtain ⟨b, off, spot⟩ := a
      have hspot : spot = none := by
        obtain ⟨h1, _, h3⟩ := hf 0 (by omega)
        have hc0 := h1 0 _ (List.getElem?_eq_getElem (show 0 < (E (f 0)).length by omega))
        simpa [Addr.add] using World.cell?_spot hc0
      subst hspot
      refine ⟨b, off, rfl, fun i u hu => ?_⟩
      have := (hf j hj').1 i u (by simpa using hu)
      rw [Addr.add_lit, Addr.add_lit] at this
      exact this
    · obtain ⟨i, hi', rfl⟩ := List.mem_map.1 hy
      exact (hf i (List.mem_range.1 hi')).2.1
/-- A struct of one-cell fields: each field's cell, and its reading. -/
theorem trod_fields {t : TypeId} {fs : Array Field} {fuel : Nat} {cs : List Value} {x : DataW H × List MemPlace} (hs : P.underlying t = some (.struct fs)) (hone : oneCellFields P fs = true) (hC : P.cellsOf t = fs.size)
    (h : DataW.trod enc P w base spare held fuel t cs = some x) :
    cs.length = fs.size ∧ ∃ m, ∀ (j : Nat) (f : Field), fs[j]? = some f → ∃ c y, cs[j]? = some c ∧ DataW.trod enc P w base spare held m f.type [c] = some y := by
  obtain ⟨xs, m, _, _, hl, hx, hf⟩ := DataW.trod_struct hs h
  rw [hC] at hl
  refine ⟨hl, m, fun j f hj => ?_⟩
  have hjl : j < fs.size := (Array.getElem?_eq_some_iff.1 hj).1
  obtain ⟨o, k⟩ := hone_of hone j f hj
  have h1 := hf j f hj
  rw [o, k, List.drop_eq_getElem_cons (by omega), List.take_succ_cons, List.take_zero, List.getElem?_eq_getElem (by omega)] at h1
  exact ⟨_, _, List.getElem?_eq_getElem (by omega), h1⟩
end
end Go.Proofs.Ytlbemlodcdgakaa

/- Slices of texts that came in. Conditions: none. -/
namespace Go.Proofs.Ytlbemlodcdgakaa
open Go.RowKit Go.ChangeShapes Go.WideShapes

theorem weights_all_mem {H : Type} {P : Program} {e : TypeId} : ∀ {D : List (DataW H)} {d : DataW H}, d ∈ D → ∀ n ∈ d.weights P e, n ∈ DataW.weightsAll P e D
  | [], _, h, _, _ => absurd h (by simp)
  | x :: D, d, h, n, hn => by
    unfold DataW.weightsAll
    rcases List.mem_cons.1 h with rfl | h
    · exact List.mem_append_left _ hn
    · exact List.mem_append_right _ (weights_all_mem h n hn)
theorem weights_le {H : Type} {P : Program} {ts : List TypeId} {ds : List (DataW H)} (h : (DataW.weightsEach P ts ds).all (· ≤ reachBytes) = true) {j : Nat} {t : TypeId} {d : DataW H} (ht : ts[j]? = some t) (hd : ds[j]? = some d) : ∀ n ∈ d.weights P t, n ≤ reachBytes := fun n hn => by
  have := List.all_eq_true.1 h _ (DataW.weights_mem_each ht hd n hn)
  simpa using this
end Go.Proofs.Ytlbemlodcdgakaa

/- Entries of a log that came in (over the texts of ops): a batch (client, request, operations), a timestamp; with how much they hold. Conditions: none. -/
namespace Go.Proofs.Ytlbemlodcdgakaa
open Go.RowKit Go.ChangeShapes Go.WideShapes Go.Deep Go.PlainAid

def opOk (o : OpT) : Prop := o.1.size ≤ 9223372036854775807 ∧ o.2.1.size ≤ 9223372036854775807
/-- An entry: client, request, the operations' slice as a value and as a list, timestamp. -/
structure EntT where
  client : Int
  req : Int
  ops : Value
  opl : List OpT
  ts : Int
instance : Inhabited EntT := ⟨⟨0, 0, .slice none 0 0, [], 0⟩⟩
def entE (e : EntT) : List Value := [.int .i64 e.client, .int .i64 e.req, e.ops, .int .u64 e.ts]
/-- What is known of an entry that came in. -/
structure EntOk (w : World) (e : EntT) : Prop where
  ops : SliceOf opE 3 w e.ops e.opl
  each : ∀ o ∈ e.opl, opOk o
  ts0 : 0 ≤ e.ts
  ts1 : e.ts < 18446744073709551616
  cl : (Lit.int .i64 e.client).wf = true
  rq : (Lit.int .i64 e.req).wf = true
theorem EntOk.below {w w' : World} {e : EntT} (h : EntOk w e) (hb : Below w.heap.size w w') : EntOk w' e := ⟨h.ops.below hb, h.each, h.ts0, h.ts1, h.cl, h.rq⟩
section
variable {H : Type} {enc : TypeId × Value → H} {w : World} {base : Nat} {spare : Nat → Bool} {held : Bool}
set_option maxRecDepth 10000 in
theorem elem_opS (n : Nat) (cs : List Value) (x : DataW H × List MemPlace) (h : DataW.trod enc Try.prog w base spare held n 201 cs = some x) : ∃ p : OpT, cs = opE p ∧ opOk p := by
  obtain ⟨hl, m, hf⟩ := trod_fields Try.underlying201 (by kernel_rfl) (by kernel_rfl) h
  have hl3 : cs.length = 3 := hl
  clear hl
  match cs, hl3 with
  | [c0, c1, c2], _ =>
    obtain ⟨_, y0, e0, h0⟩ := hf 0 _ rfl
    obtain ⟨_, y1, e1, h1⟩ := hf 1 _ rfl
    obtain ⟨_, y2, e2, h2⟩ := hf 2 _ rfl
    cases e0; cases e1; cases e2
    obtain ⟨a, e0, _, w0⟩ := DataW.trod_string Try.underlying9 h0
    obtain ⟨b, e1, _, w1⟩ := DataW.trod_string Try.underlying9 h1
    obtain ⟨c, e2, _⟩ := DataW.trod_bool Try.underlying4 h2
    simp only [List.cons.injEq, and_true] at e0 e1 e2
    subst e0 e1 e2
    exact ⟨(a, b, c), rfl, by unfold maxLen at w0; exact w0, by unfold maxLen at w1; exact w1⟩
theorem open_opsS {fuel : Nat} {cs : List Value} {x : DataW H × List MemPlace} (h : DataW.trod enc Try.prog w base spare held fuel 34 cs = some x) :
    ∃ (l : List OpT) (v : Value), cs = [v] ∧ SliceOf opE 3 w v l ∧ ∀ p ∈ l, opOk p :=
  open_rows opE 3 opOk Try.underlying34 (by kernel_rfl) (by omega) elem_opS h
set_option maxRecDepth 10000 in
theorem elem_ent (n : Nat) (cs : List Value) (x : DataW H × List MemPlace) (h : DataW.trod enc Try.prog w base spare held n 38 cs = some x) : ∃ e, cs = entE e ∧ EntOk w e := by
  obtain ⟨xs, m, _, _, hl, hxl, hf⟩ := DataW.trod_struct Try.underlying38 h
  have hl4 : cs.length = 4 := hl
  have hx2 : xs.length = 2 := hxl
  clear hl hxl
  match cs, hl4 with
  | [c0, c1, c2, c3], _ =>
    have h0 := hf 0 _ rfl
    have h1 := hf 1 _ rfl
    obtain ⟨y0, hy0⟩ : ∃ y, xs[0]? = some y := ⟨_, List.getElem?_eq_getElem (by omega)⟩
    obtain ⟨y1, hy1⟩ : ∃ y, xs[1]? = some y := ⟨_, List.getElem?_eq_getElem (by omega)⟩
    rw [hy0] at h0
    rw [hy1] at h1
    have h0' : DataW.trod enc Try.prog w base spare held m 36 [c0, c1, c2] = some y0 := h0
    have h1' : DataW.trod enc Try.prog w base spare held m 29 [c3] = some y1 := h1
    obtain ⟨ts, e3, _, w3⟩ := DataW.trod_int Try.underlying29 h1'
    obtain ⟨_, m2, hf2⟩ := trod_fields Try.underlying36 (by kernel_rfl) (by kernel_rfl) h0'
    obtain ⟨_, z0, e0, g0⟩ := hf2 0 _ rfl
    obtain ⟨_, z1, e1, g1⟩ := hf2 1 _ rfl
    obtain ⟨_, z2, e2, g2⟩ := hf2 2 _ rfl
    cases e0; cases e1; cases e2
    obtain ⟨a, e0, _, w0⟩ := DataW.trod_int Try.underlying3 g0
    obtain ⟨b, e1, _, w1⟩ := DataW.trod_int Try.underlying3 g1
    obtain ⟨l, v, e2, hs, hall⟩ := open_opsS g2
    simp only [List.cons.injEq, and_true] at e0 e1 e2 e3
    subst e0 e1 e2 e3
    have := wf_u64 w3
    exact ⟨⟨a, b, c2, l, ts⟩, rfl, ⟨hs, hall, this.1, this.2, w0, w1⟩⟩
theorem open_ents {fuel : Nat} {cs : List Value} {x : DataW H × List MemPlace} (h : DataW.trod enc Try.prog w base spare held fuel 69 cs = some x) :
    ∃ (l : List EntT) (v : Value), cs = [v] ∧ SliceOf entE 4 w v l ∧ ∀ p ∈ l, EntOk w p :=
  open_rows entE 4 (EntOk w) Try.underlying69 (by kernel_rfl) (by omega) elem_ent h
end
section
variable {H : Type} {enc : TypeId × Value → H} {P : Program} {w : World} {base : Nat} {spare : Nat → Bool} {held : Bool}
theorem weights_all_le {R : Nat} {e : TypeId} {D : List (DataW H)} (h : ∀ n ∈ DataW.weightsAll P e D, n ≤ R) {d : DataW H} (hd : d ∈ D) : ∀ n ∈ d.weights P e, n ≤ R := fun n hn => h n (weights_all_mem hd n hn)
/-- A slice within the form's reach, each element of which is known together with its reading's reach. -/
theorem open_rows_sz {α : Type} [Inhabited α] {t e : TypeId} {fuel : Nat} {cs : List Value} {x : DataW H × List MemPlace} (E : α → List Value) (sz : Nat) (good : α → Prop)
    (ht : P.underlying t = some (.slice e)) (hC : P.cellsOf e = sz) (hpos : 0 < sz) (hw : ∀ n ∈ x.1.weights P t, n ≤ reachBytes)
    (elem : ∀ n cs y, DataW.trod enc P w base spare held n e cs = some y → (∀ n ∈ y.1.weights P e, n ≤ reachBytes) → ∃ a : α, cs = E a ∧ good a)
    (h : DataW.trod enc P w base spare held fuel t cs = some x) :
    ∃ (l : List α) (v : Value), cs = [v] ∧ SliceOf E sz w v l ∧ (∀ a ∈ l, good a) ∧ l.length * P.bytesOf e ≤ reachBytes := by
  rcases open_slice ht h with ⟨hcs, _⟩ | ⟨a, len, cap, m, n, D, Pl, hcs, _, hl, hm, hmm, hx, hi⟩
  · exact ⟨[], _, hcs, SliceOf.nil _ _ _, by simp, by simp⟩
  · have hlm : len ≤ m := by rw [hmm]; split <;> omega
    rw [hC] at hi
    subst hx
    have hw1 : ∀ n, n ∈ DataW.weights (H := H) P t (.slice ((List.range len).map D) ((List.range (m - len)).map fun j => D (len + j))) → n ≤ reachBytes := hw
    unfold DataW.weights at hw1
    rw [ht] at hw1
    simp only [List.mem_cons, List.mem_append, List.length_map, List.length_range] at hw1
    obtain ⟨f, hf⟩ := choose_lt (α := α) (n := len) (p := fun i y => (∀ j u, (E y)[j]? = some u → w.cell? ((a.add (i * sz)).add j) = some u) ∧ good y ∧ (E y).length = sz) (fun i hilt => by
      obtain ⟨cs', hc, ht'⟩ := hi i (by omega)
      obtain ⟨y, rfl, hg⟩ := elem n cs' _ ht' (weights_all_le (D := (List.range len).map D) (fun n hn => hw1 n (.inr (.inl hn))) (List.mem_map.2 ⟨i, List.mem_range.2 hilt, rfl⟩))
      obtain ⟨_, hcl, hat⟩ := World.cells?_some hc
      exact ⟨y, fun j u hu => by
        have hj : j < (E y).length := (List.getElem?_eq_some_iff.1 hu).1
        rw [hat j (by omega), hu], hg, hcl⟩)
    refine ⟨(List.range len).map f, _, hcs, ⟨some a, cap, by simp, by simpa using hl, by unfold maxLen at hm; omega, fun h => (by cases h), fun j hj => ?_⟩, fun y hy => ?_, ?_⟩
    · have hj' : j < len := by simpa using hj
      obtain ⟨b, off, spot⟩ := a
      have hspot : spot = none := by
        obtain ⟨h1, _, h3⟩ := hf 0 (by omega)
        have hc0 := h1 0 _ (List.getElem?_eq_getElem (show 0 < (E (f 0)).length by omega))
        simpa [Addr.add] using World.cell?_spot hc0
      subst hspot
      refine ⟨b, off, rfl, fun i u hu => ?_⟩
      have := (hf j hj').1 i u (by simpa using hu)
      rw [Addr.add_lit, Addr.add_lit] at this
      exact this
    · obtain ⟨i, hi', rfl⟩ := List.mem_map.1 hy
      exact (hf i (List.mem_range.1 hi')).2.1
    · have h0 := hw1 _ (.inl rfl)
      rw [List.length_map, List.length_range]
      exact Nat.le_trans (Nat.mul_le_mul_right _ (by omega)) h0
end
section
variable {H : Type} {enc : TypeId × Value → H} {w : World} {base : Nat} {spare : Nat → Bool} {held : Bool}
/-- An entry that came in, and how many operations it can have. -/
def EntOkS (w : World) (e : EntT) : Prop := EntOk w e ∧ e.opl.length ≤ 3518437208883
set_option maxRecDepth 10000 in
theorem elem_ent_sz (n : Nat) (cs : List Value) (x : DataW H × List MemPlace) (h : DataW.trod enc Try.prog w base spare held n 38 cs = some x) (hw : ∀ n ∈ x.1.weights Try.prog 38, n ≤ reachBytes) : ∃ e, cs = entE e ∧ EntOkS w e := by
  obtain ⟨xs, m, _, hx, hl, hxl, hf⟩ := DataW.trod_struct Try.underlying38 h
  have hl4 : cs.length = 4 := hl
  have hx2 : xs.length = 2 := hxl
  clear hl hxl
  match cs, hl4, xs, hx2 with
  | [c0, c1, c2, c3], _, [y0, y1], _ =>
    have h0' : DataW.trod enc Try.prog w base spare held m 36 [c0, c1, c2] = some y0 := hf 0 _ rfl
    have h1' : DataW.trod enc Try.prog w base spare held m 29 [c3] = some y1 := hf 1 _ rfl
    obtain ⟨ts, e3, _, w3⟩ := DataW.trod_int Try.underlying29 h1'
    have hw0 : ∀ n ∈ y0.1.weights Try.prog 36, n ≤ reachBytes := fun n hn => hw n (by
      have e1 : x.1 = .agg [y0.1, y1.1] := by rw [hx]; rfl
      rw [e1]
      unfold DataW.weights
      rw [Try.underlying38]
      exact DataW.weights_mem_each (j := 0) rfl rfl n hn)
    obtain ⟨zs, m2, _, hz, hzl0, hzl, hg⟩ := DataW.trod_struct Try.underlying36 h0'
    have hz3 : zs.length = 3 := hzl
    match zs, hz3 with
    | [z0, z1, z2], _ =>
      have g0 : DataW.trod enc Try.prog w base spare held m2 3 [c0] = some z0 := hg 0 _ rfl
      have g1 : DataW.trod enc Try.prog w base spare held m2 3 [c1] = some z1 := hg 1 _ rfl
      have g2 : DataW.trod enc Try.prog w base spare held m2 34 [c2] = some z2 := hg 2 _ rfl
      have hw2 : ∀ n ∈ z2.1.weights Try.prog 34, n ≤ reachBytes := fun n hn => hw0 n (by
        have e1 : y0.1 = .agg [z0.1, z1.1, z2.1] := by rw [hz]; rfl
        rw [e1]
        unfold DataW.weights
        rw [Try.underlying36]
        exact DataW.weights_mem_each (j := 2) rfl rfl n hn)
      obtain ⟨a, e0, _, w0⟩ := DataW.trod_int Try.underlying3 g0
      obtain ⟨b, e1, _, w1⟩ := DataW.trod_int Try.underlying3 g1
      obtain ⟨l, v, e2, hs, hall, hsz⟩ := open_rows_sz opE 3 opOk Try.underlying34 (by kernel_rfl) (by omega) hw2 (fun n cs y h _ => elem_opS n cs y h) g2
      rw [show Try.prog.bytesOf 201 = 40 by kernel_rfl] at hsz
      simp only [List.cons.injEq, and_true] at e0 e1 e2 e3
      subst e0 e1 e2 e3
      have := wf_u64 w3
      exact ⟨⟨a, b, c2, l, ts⟩, rfl, ⟨hs, hall, this.1, this.2, w0, w1⟩, by unfold reachBytes at hsz; show l.length ≤ _; omega⟩
theorem open_ents_sz {fuel : Nat} {cs : List Value} {x : DataW H × List MemPlace} (hw : ∀ n ∈ x.1.weights Try.prog 69, n ≤ reachBytes) (h : DataW.trod enc Try.prog w base spare held fuel 69 cs = some x) :
    ∃ (l : List EntT) (v : Value), cs = [v] ∧ SliceOf entE 4 w v l ∧ (∀ p ∈ l, EntOkS w p) ∧ l.length ≤ 2932031007403 := by
  obtain ⟨l, v, h1, h2, h3, h4⟩ := open_rows_sz entE 4 (EntOkS w) Try.underlying69 (by kernel_rfl) (by omega) hw elem_ent_sz h
  rw [show Try.prog.bytesOf 38 = 48 by kernel_rfl] at h4
  exact ⟨l, v, h1, h2, h3, by unfold reachBytes at h4; omega⟩
end

end Go.Proofs.Ytlbemlodcdgakaa

/- Stores into a part of a block; boxes of an opaque value. Conditions: none. -/
namespace Go.Proofs.Ytlbemlodcdgakaa
open Go.RowKit

section
variable {P : Program} {n : Nat} {m : List (Nat × Value)} {w x w0 : World} {o : Oper} {N : Nat} {T : TypeId} {cs : Array Value} {S : Nat → Prop}
theorem op_storePart {t : TypeId} {p q : Operand} {cells cs' : Array Value} {k : Nat} (ho : o.op = .store t p q) (hp : ev m p = some (.pointer (some ⟨N, k, none⟩))) (hq : ev m q = some (.agg cells)) (h1 : cells.all (·.oneCell') = true) (hi : (P.info? t).map (·.size) = some cells.size)
    (hb : Blk w N T cs) (hk : Nat.ble (k + cells.size) cs.size = true) (he : (cs.toList.take k ++ cells.toList ++ cs.toList.drop (k + cells.size)).toArray = cs') : Op1 P n m o w (fun _ x => Blk x N T cs' ∧ x.heap.size = w.heap.size ∧ w.grownBy x (some N)) := by
  intro a ha K Q hN
  have hk' : k + cells.size ≤ cs.size := by simpa using hk
  have hthere : w.there N k cells.size := fun j hj => ⟨by rw [hb.cell (k := k + j) (v := cs[k + j]'(by omega)) (by rw [Array.getElem?_eq_getElem])]; rfl, hb.frozen _⟩
  refine wp_store_mid t p q ho N k cells (ha.ev hp) (ha.ev hq) hthere hi h1 (hN _ _ ⟨?_, ?_, ?_⟩)
  · have := setCells_blk cells.toList w cs k hb (by simpa using hk')
    simp only [Array.length_toList] at this
    rw [he] at this; exact this
  · have hsz : ∀ (vs : List Value) (k : Nat) (w : World), (w.setCells N k vs).heap.size = w.heap.size := by
      intro vs
      induction vs with
      | nil => intro k w; rfl
      | cons v r ih => intro k w; rw [World.setCells, ih]; simp [World.setCell]
    exact hsz _ _ _
  · have hg : ∀ (vs : List Value) (k : Nat) (w : World), w.grownBy (w.setCells N k vs) (some N) := by
      intro vs
      induction vs with
      | nil => intro k w; exact World.grownBy.refl _ _
      | cons v r ih => intro k w; rw [World.setCells]; exact (grown_setCell w N k v).trans (ih _ _)
    exact hg _ _ _
theorem box_run {t : TypeId} {q : Operand} {v : Value} (ho : o.op = .box t q) (hq : ev m q = some v) (h1 : v.oneCell' = true) : (execOp (lk m) o).run P w = .ok (.value (.pointer (some ⟨w.heap.size, 0, none⟩))) (w.alloc (.cells #[v] t)) := by
  unfold execOp
  simp only [ho, lk_ev hq]
  cases v <;> first | rfl | simp_all [Value.oneCell']
end
end Go.Proofs.Ytlbemlodcdgakaa

/- Package item: Check, Stamped, Last of both; Twins of the document's; how much a list holds. Conditions: none. -/
namespace Go.Proofs.Ytlbemlodcdgakaa
open Go.RowKit Go.PlainAid
set_option linter.unusedVariables false


theorem entE_len (e : EntT) : (entE e).length = 4 := rfl
def twN (l : List EntT) (c r : Int) : Int := ((l.countP fun e => e.client == c && e.req == r : Nat) : Int)
theorem twN_snoc (l : List EntT) (y : EntT) (c r : Int) : twN (l ++ [y]) c r = twN l c r + (if y.client = c ∧ y.req = r then 1 else 0) := by
  unfold twN
  rw [List.countP_append]
  by_cases h : y.client = c ∧ y.req = r
  · simp [h.1, h.2]
  · rw [if_neg h]
    have : (y.client == c && y.req == r) = false := by simpa using h
    simp [List.countP_cons, this]
theorem twN_pos (l : List EntT) (c r : Int) : 0 ≤ twN l c r ∧ twN l c r ≤ l.length := by
  unfold twN; have := List.countP_le_length (p := fun e : EntT => e.client == c && e.req == r) (l := l); omega
theorem takeE {α : Type} {l : List α} {i : Nat} {y : α} (h : l[i]? = some y) : l.take (i + 1) = l.take i ++ [y] := by
  rw [List.take_add_one, h]; rfl
def badT (pre : List EntT) (e : EntT) : Bool := match pre.getLast? with
  | none => false
  | some p => decide (e.ts ≠ 0 ∧ (p.ts = 0 ∨ e.ts ≤ p.ts))
def rgF : List EntT → List EntT → Int
  | _, [] => 0
  | pre, e :: r => if chkB e.client e.req e.opl ≠ 0 then chkB e.client e.req e.opl else if 0 < twN pre e.client e.req then 18 else if badT pre e = true then 18 else rgF (pre ++ [e]) r
def rightI (l : List EntT) : Int := rgF [] l
theorem bad_at {l : List EntT} {i j : Nat} {y p : EntT} (hj : j = i - 1) (h0 : 0 < i) (h : l[j]? = some p) : badT (l.take i) y = decide (y.ts ≠ 0 ∧ (p.ts = 0 ∨ y.ts ≤ p.ts)) := by
  have hl : (l.take i).getLast? = some p := by
    obtain ⟨i, rfl⟩ : ∃ k, i = k + 1 := ⟨i - 1, by omega⟩
    have : j = i := by omega
    subst this
    rw [takeE h]; simp
  unfold badT; rw [hl]
/-- How many have timestamps, the last of these. -/
def stN (l : List EntT) : Nat := (l.takeWhile fun e => decide (e.ts ≠ 0)).length
theorem stN_le (l : List EntT) : stN l ≤ l.length := by
  unfold stN; exact (List.takeWhile_sublist _).length_le
theorem stN_stop : ∀ {l : List EntT} {i : Nat} {y : EntT}, (∀ j, j < i → ∀ z, l[j]? = some z → z.ts ≠ 0) → l[i]? = some y → y.ts = 0 → stN l = i
  | [], i, y, _, h, _ => by simp at h
  | e :: l, 0, y, _, h, h0 => by simp at h; subst h; simp [stN, h0]
  | e :: l, i + 1, y, hb, h, h0 => by
    have he : e.ts ≠ 0 := hb 0 (by omega) e (by simp)
    have ih := stN_stop (l := l) (i := i) (fun j hj z hz => hb (j + 1) (by omega) z (by simpa using hz)) (by simpa using h) h0
    unfold stN at ih ⊢
    rw [List.takeWhile_cons, if_pos (by simpa using he), List.length_cons, ih]
theorem stN_end : ∀ {l : List EntT} {i : Nat}, (∀ j, j < i → ∀ z, l[j]? = some z → z.ts ≠ 0) → l.length = i → stN l = i
  | [], i, _, h => by simp at h; subst h; rfl
  | e :: l, 0, _, h => by simp at h
  | e :: l, i + 1, hb, h => by
    have he : e.ts ≠ 0 := hb 0 (by omega) e (by simp)
    have ih := stN_end (l := l) (i := i) (fun j hj z hz => hb (j + 1) (by omega) z (by simpa using hz)) (by simpa using h)
    unfold stN at ih ⊢
    rw [List.takeWhile_cons, if_pos (by simpa using he), List.length_cons, ih]
theorem st_next {l : List EntT} {i : Nat} {y : EntT} (hb : ∀ j, j < i → ∀ z, l[j]? = some z → z.ts ≠ 0) (h : l[i]? = some y) (h0 : ¬ y.ts = 0) : ∀ j, j < i + 1 → ∀ z, l[j]? = some z → z.ts ≠ 0 := by
  intro j hj z hz
  by_cases e : j = i
  · subst e; rw [h] at hz; cases hz; exact h0
  · exact hb j (by omega) z hz
def lastT (l : List EntT) : Int := if stN l = 0 then 0 else (l.getD (stN l - 1) default).ts
theorem lastT_0 {l : List EntT} (h : ((stN l : Nat) : Int) = 0) : 0 = lastT l := by unfold lastT; rw [if_pos (by omega)]
theorem lastT_at {l : List EntT} {y : EntT} {j : Nat} (hj : j = stN l - 1) (h : ¬ ((stN l : Nat) : Int) = 0) (hy : l[j]? = some y) : y.ts = lastT l := by
  subst hj
  unfold lastT; rw [if_neg (by omega), List.getD_eq_getElem?_getD, hy]; rfl
def sumN (l : List EntT) : Int := l.foldl (fun n e => n + (e.opl.length : Int)) 0
theorem sumN_snoc (l : List EntT) (y : EntT) : sumN (l ++ [y]) = sumN l + (y.opl.length : Int) := by unfold sumN; rw [List.foldl_append]; rfl
theorem sumN_step {l : List EntT} {i : Nat} {y : EntT} (h : l[i]? = some y) : sumN (l.take (i + 1)) = sumN (l.take i) + (y.opl.length : Int) := by rw [takeE h, sumN_snoc]
theorem sumN_le {w : World} : ∀ (l : List EntT), (∀ z ∈ l, EntOkS w z) → 0 ≤ sumN l ∧ sumN l ≤ 3518437208883 * (l.length : Int) := by
  intro l
  have key : ∀ (l : List EntT) (m : Int), (∀ z ∈ l, EntOkS w z) → m ≤ l.foldl (fun n e => n + (e.opl.length : Int)) m ∧ l.foldl (fun n e => n + (e.opl.length : Int)) m ≤ m + 3518437208883 * (l.length : Int) := by
    intro l
    induction l with
    | nil => intro m _; simp
    | cons e r ih =>
      intro m h
      have h1 := ih (m + (e.opl.length : Int)) (fun z hz => h z (by simp [hz]))
      have h2 := (h e (by simp)).2
      simp only [List.foldl_cons, List.length_cons]
      omega
  intro h
  have := key l 0 h
  unfold sumN; omega
theorem sumN_takes {w : World} {l : List EntT} (h : ∀ z ∈ l, EntOkS w z) (i : Nat) (hi : i ≤ 200) : 0 ≤ sumN (l.take i) ∧ sumN (l.take i) ≤ 703687441776600 := by
  have := sumN_le (l.take i) (fun z hz => h z (List.mem_of_mem_take hz))
  have h2 : (l.take i).length ≤ 200 := by rw [List.length_take]; omega
  omega
def muchN (l : List EntT) : Int := (l.length : Int) + sumN (l.take 200)

set_option maxRecDepth 100000 in
theorem itemStamped_any (v : Value) (l : List EntT) (w : World) (hs : SliceOf entE 4 w v l) (hok : ∀ z ∈ l, EntOk w z) :
    Calls Try.prog 70 #[v] w fun e w' => e = .returned (.int .i64 ((stN l : Nat) : Int)) ∧ Below w.heap.size w w' := by
 have hB0 := Below.refl w.heap.size w
 have hl_hs := sl_len hs
 refine co_enter (n := 19) Try.func70 rfl rfl rfl [(0, v)] rfl (fun a h0 => ?_)
 refine co_seq ?_
 refine co_reg ?_
 refine pk0 (v := .int .i64 0) h0 rfl fun a1 h1 => ?_; clear h0
 refine pl_nil ?_
 refine co_then ?_
 refine co_seq ?_
 refine co_reg ?_
 refine pk0 (v := .int .i64 0) h1 rfl fun a2 h2 => ?_; clear h1
 refine pl_nil ?_
 refine co_then ?_
 refine co_seq ?_
 refine wp_block ?_
 have h3 : Slots 19 [(0, v), (3, .int .i64 0)] _ := h2.sub ⟨rfl, rfl, trivial⟩; clear h2
 refine co_loop (fun mm a x => ∃ (i : Nat), Slots 19 [(0, v), (3, .int .i64 ((i : Nat) : Int))] a ∧ mm = l.length - i ∧ (i ≤ l.length) ∧ (∀ j, j < i → ∀ z, l[j]? = some z → z.ts ≠ 0) ∧ Below w.heap.size w x) (l.length - 0) ?_ ?_
 · exact ⟨0, h3.sub ⟨rfl, (slot_eq rfl (congrArg (Value.int .i64) (by first | rfl | omega))), trivial⟩, rfl, by omega, by first | (intro j hj; omega) | exact st_next (by assumption) (by assumption) (by omega), hB0⟩
 · rintro k4 a5 w6 ⟨i, h5, rfl, hi7, hi8, hB9⟩
   have hz10 := hB9.size
   refine co_seq ?_
   refine co_seq ?_
   refine co_reg ?_
   refine pk0 (v := .int .i64 ((i : Nat) : Int)) h5 rfl fun a11 h11 => ?_; clear h5
   refine pk0 (v := v) h11 rfl fun a12 h12 => ?_; clear h11
   refine pk (v := .int .i64 ((l.length : Nat) : Int)) h12 rfl (rn_len rfl rfl Try.underlying69 (hs.below hB9)) fun a13 h13 => ?_; clear h12
   refine pk0 (v := .bool (decide (((i : Nat) : Int) < ((l.length : Nat) : Int)))) h13 rfl fun a14 h14 => ?_; clear h13
   refine pk0 (v := .bool (decide (((i : Nat) : Int) < ((l.length : Nat) : Int)))) h14 rfl fun a15 h15 => ?_; clear h14
   cases hc16 : (decide (((i : Nat) : Int) < ((l.length : Nat) : Int)))
   ·
    rw [hc16] at h15
    have hp17 : ¬ (((i : Nat) : Int) < ((l.length : Nat) : Int)) := of_decide_eq_false hc16
    clear hc16
    refine psk h15 rfl fun a18 h18 => ?_; clear h15
    refine psk h18 rfl fun a19 h19 => ?_; clear h18
    refine psk h19 rfl fun a20 h20 => ?_; clear h19
    refine psk h20 rfl fun a21 h21 => ?_; clear h20
    refine psk h21 rfl fun a22 h22 => ?_; clear h21
    refine psk h22 rfl fun a23 h23 => ?_; clear h22
    refine pk0 (v := .bool false) h23 rfl fun a24 h24 => ?_; clear h23
    refine pl_nil ?_
    refine co_then ?_
    refine co_false h24 rfl ?_
    refine wp_exit ?_
    refine co_thenX ?_
    refine co_thenX ?_
    refine co_blockX ?_
    refine co_then ?_
    refine co_seq ?_
    refine co_reg ?_
    refine pk0 (v := .int .i64 ((i : Nat) : Int)) h24 rfl fun a25 h25 => ?_; clear h24
    refine pk0 (v := .int .i64 ((i : Nat) : Int)) h25 rfl fun a26 h26 => ?_; clear h25
    refine pl_nil ?_
    refine co_then ?_
    refine wp_ret ?_
    refine co_ret1 h26 rfl rfl ?_
    exact ⟨ret_int (by rw [stN_end (l := l) (i := i) (by assumption) (by omega)]), hB9⟩
   ·
    rw [hc16] at h15
    have hp27 : ((i : Nat) : Int) < ((l.length : Nat) : Int) := of_decide_eq_true hc16
    clear hc16
    refine pk0 (v := v) h15 rfl fun a28 h28 => ?_; clear h15
    refine pk0 (v := .int .i64 ((i : Nat) : Int)) h28 rfl fun a29 h29 => ?_; clear h28
    obtain ⟨y30, hy30⟩ : ∃ z, l[i]? = some z := ⟨_, List.getElem?_eq_getElem (by first | omega | (simp; done) | (simp; omega))⟩
    have oky30 := hok _ (List.mem_of_getElem? hy30)
    have k31 : 0 ≤ y30.ts := oky30.ts0
    have k32 : y30.ts < 18446744073709551616 := oky30.ts1
    refine pk (v := pt (blkOf v) (offOf v + i * 4)) h29 rfl (rn_index rfl rfl rfl Try.underlying69 Try.sizeOf38 (hs.below hB9) (by omega) (by first | omega | (simp; done) | (simp; omega))) fun a33 h33 => ?_; clear h29
    refine pk0 (v := pt (blkOf v) (offOf v + i * 4 + 3)) h33 rfl fun a34 h34 => ?_; clear h33
    refine pk (v := .int .u64 y30.ts) h34 rfl (rn_load1 rfl rfl Try.isAgg29 ((sl_at (hs.below hB9) hy30) 3 _ rfl)) fun a35 h35 => ?_; clear h34
    refine pk0 (v := .bool (y30.ts != 0)) h35 rfl fun a36 h36 => ?_; clear h35
    refine pk0 (v := .bool (y30.ts != 0)) h36 rfl fun a37 h37 => ?_; clear h36
    refine pl_nil ?_
    refine co_then ?_
    cases hc38 : (y30.ts != 0)
    ·
     rw [hc38] at h37
     have hp39 : ¬ (y30.ts ≠ 0) := by first | simpa using hc38 | simpa [and_assoc] using hc38
     clear hc38
     refine co_false h37 rfl ?_
     refine wp_exit ?_
     refine co_thenX ?_
     refine co_thenX ?_
     refine co_blockX ?_
     refine co_then ?_
     refine co_seq ?_
     refine co_reg ?_
     refine pk0 (v := .int .i64 ((i : Nat) : Int)) h37 rfl fun a40 h40 => ?_; clear h37
     refine pk0 (v := .int .i64 ((i : Nat) : Int)) h40 rfl fun a41 h41 => ?_; clear h40
     refine pl_nil ?_
     refine co_then ?_
     refine wp_ret ?_
     refine co_ret1 h41 rfl rfl ?_
     exact ⟨ret_int (by rw [stN_stop (l := l) (i := i) (by assumption) hy30 (by omega)]), hB9⟩
    ·
     rw [hc38] at h37
     have hp42 : y30.ts ≠ 0 := by first | simpa using hc38 | simpa [and_assoc] using hc38
     clear hc38
     refine co_true h37 rfl ?_
     refine wp_skip ?_
     refine co_then ?_
     refine wp_block ?_
     refine co_reg ?_
     refine pk0 (v := .int .i64 ((i : Nat) : Int)) h37 rfl fun a43 h43 => ?_; clear h37
     refine pk (v := .int .i64 ((i + 1 : Nat) : Int)) h43 rfl (rn_arith' rfl rfl rfl rfl rfl rfl (IntWalk.i64_in _ (by omega)) (by omega)) fun a44 h44 => ?_; clear h43
     refine pk0 (v := .int .i64 ((i + 1 : Nat) : Int)) h44 rfl fun a45 h45 => ?_; clear h44
     refine pl_nil ?_
     refine co_blockN ?_
     refine co_then ?_
     refine ⟨(l.length - (i + 1)), by omega, ?_⟩
     exact ⟨i + 1, h45.sub ⟨rfl, rfl, trivial⟩, rfl, by omega, by first | (intro j hj; omega) | exact st_next (by assumption) (by assumption) (by omega), hB9⟩
set_option maxRecDepth 100000 in
theorem ritemStamped_any (v : Value) (l : List EntT) (w : World) (hs : SliceOf entE 4 w v l) (hok : ∀ z ∈ l, EntOk w z) :
    Calls Try.prog 42 #[v] w fun e w' => e = .returned (.int .i64 ((stN l : Nat) : Int)) ∧ Below w.heap.size w w' := by
 have hB0 := Below.refl w.heap.size w
 have hl_hs := sl_len hs
 refine co_enter (n := 19) Try.func42 rfl rfl rfl [(0, v)] rfl (fun a h0 => ?_)
 refine co_seq ?_
 refine co_reg ?_
 refine pk0 (v := .int .i64 0) h0 rfl fun a1 h1 => ?_; clear h0
 refine pl_nil ?_
 refine co_then ?_
 refine co_seq ?_
 refine co_seq ?_
 refine co_reg ?_
 refine pk0 (v := .int .i64 0) h1 rfl fun a2 h2 => ?_; clear h1
 refine pl_nil ?_
 refine co_then ?_
 refine wp_block ?_
 have h3 : Slots 19 [(0, v), (3, .int .i64 0)] _ := h2.sub ⟨rfl, rfl, trivial⟩; clear h2
 refine co_loop (fun mm a x => ∃ (i : Nat), Slots 19 [(0, v), (3, .int .i64 ((i : Nat) : Int))] a ∧ mm = l.length - i ∧ (i ≤ l.length) ∧ (∀ j, j < i → ∀ z, l[j]? = some z → z.ts ≠ 0) ∧ Below w.heap.size w x) (l.length - 0) ?_ ?_
 · exact ⟨0, h3.sub ⟨rfl, (slot_eq rfl (congrArg (Value.int .i64) (by first | rfl | omega))), trivial⟩, rfl, by omega, by first | (intro j hj; omega) | exact st_next (by assumption) (by assumption) (by omega), hB0⟩
 · rintro k4 a5 w6 ⟨i, h5, rfl, hi7, hi8, hB9⟩
   have hz10 := hB9.size
   refine co_seq ?_
   refine co_seq ?_
   refine co_reg ?_
   refine pk0 (v := .int .i64 ((i : Nat) : Int)) h5 rfl fun a11 h11 => ?_; clear h5
   refine pk0 (v := v) h11 rfl fun a12 h12 => ?_; clear h11
   refine pk (v := .int .i64 ((l.length : Nat) : Int)) h12 rfl (rn_len rfl rfl Try.underlying69 (hs.below hB9)) fun a13 h13 => ?_; clear h12
   refine pk0 (v := .bool (decide (((i : Nat) : Int) < ((l.length : Nat) : Int)))) h13 rfl fun a14 h14 => ?_; clear h13
   refine pl_nil ?_
   refine co_then ?_
   cases hc15 : (decide (((i : Nat) : Int) < ((l.length : Nat) : Int)))
   ·
    rw [hc15] at h14
    have hp16 : ¬ (((i : Nat) : Int) < ((l.length : Nat) : Int)) := of_decide_eq_false hc15
    clear hc15
    refine co_false h14 rfl ?_
    refine wp_exit ?_
    refine co_thenX ?_
    refine co_thenX ?_
    refine co_blockX ?_
    refine co_then ?_
    refine co_seq ?_
    refine co_reg ?_
    refine pk0 (v := v) h14 rfl fun a17 h17 => ?_; clear h14
    refine pk (v := .int .i64 ((l.length : Nat) : Int)) h17 rfl (rn_len rfl rfl Try.underlying69 (hs.below hB9)) fun a18 h18 => ?_; clear h17
    refine pk0 (v := .int .i64 ((l.length : Nat) : Int)) h18 rfl fun a19 h19 => ?_; clear h18
    refine pl_nil ?_
    refine co_then ?_
    refine wp_ret ?_
    refine co_ret1 h19 rfl rfl ?_
    exact ⟨ret_int (by rw [stN_end (l := l) (i := i) (by assumption) (by omega)]; omega), hB9⟩
   ·
    rw [hc15] at h14
    have hp20 : ((i : Nat) : Int) < ((l.length : Nat) : Int) := of_decide_eq_true hc15
    clear hc15
    refine co_true h14 rfl ?_
    refine wp_skip ?_
    refine co_then ?_
    refine co_seq ?_
    refine wp_block ?_
    refine co_seq ?_
    refine co_reg ?_
    refine pk0 (v := v) h14 rfl fun a21 h21 => ?_; clear h14
    refine pk0 (v := .int .i64 ((i : Nat) : Int)) h21 rfl fun a22 h22 => ?_; clear h21
    obtain ⟨y23, hy23⟩ : ∃ z, l[i]? = some z := ⟨_, List.getElem?_eq_getElem (by first | omega | (simp; done) | (simp; omega))⟩
    have oky23 := hok _ (List.mem_of_getElem? hy23)
    have k24 : 0 ≤ y23.ts := oky23.ts0
    have k25 : y23.ts < 18446744073709551616 := oky23.ts1
    refine pk (v := pt (blkOf v) (offOf v + i * 4)) h22 rfl (rn_index rfl rfl rfl Try.underlying69 Try.sizeOf38 (hs.below hB9) (by omega) (by first | omega | (simp; done) | (simp; omega))) fun a26 h26 => ?_; clear h22
    refine pk0 (v := pt (blkOf v) (offOf v + i * 4 + 3)) h26 rfl fun a27 h27 => ?_; clear h26
    refine pk (v := .int .u64 y23.ts) h27 rfl (rn_load1 rfl rfl Try.isAgg29 ((sl_at (hs.below hB9) hy23) 3 _ rfl)) fun a28 h28 => ?_; clear h27
    refine pk0 (v := .bool (y23.ts == 0)) h28 rfl fun a29 h29 => ?_; clear h28
    refine pl_nil ?_
    refine co_then ?_
    cases hc30 : (y23.ts == 0)
    ·
     rw [hc30] at h29
     have hp31 : ¬ (y23.ts = 0) := by first | simpa using hc30 | simpa [and_assoc] using hc30
     clear hc30
     refine co_false h29 rfl ?_
     refine wp_skip ?_
     refine co_blockN ?_
     refine co_then ?_
     refine co_reg ?_
     refine pk0 (v := .int .i64 ((i : Nat) : Int)) h29 rfl fun a32 h32 => ?_; clear h29
     refine pk (v := .int .i64 ((i + 1 : Nat) : Int)) h32 rfl (rn_arith' rfl rfl rfl rfl rfl rfl (IntWalk.i64_in _ (by omega)) (by omega)) fun a33 h33 => ?_; clear h32
     refine pk0 (v := .int .i64 ((i + 1 : Nat) : Int)) h33 rfl fun a34 h34 => ?_; clear h33
     refine pl_nil ?_
     refine co_then ?_
     refine ⟨(l.length - (i + 1)), by omega, ?_⟩
     exact ⟨i + 1, h34.sub ⟨rfl, rfl, trivial⟩, rfl, by omega, by first | (intro j hj; omega) | exact st_next (by assumption) (by assumption) (by omega), hB9⟩
    ·
     rw [hc30] at h29
     have hp35 : y23.ts = 0 := by first | simpa using hc30 | simpa [and_assoc] using hc30
     clear hc30
     refine co_true h29 rfl ?_
     refine co_seq ?_
     refine co_reg ?_
     refine pk0 (v := .int .i64 ((i : Nat) : Int)) h29 rfl fun a36 h36 => ?_; clear h29
     refine pk0 (v := .int .i64 ((i : Nat) : Int)) h36 rfl fun a37 h37 => ?_; clear h36
     refine pl_nil ?_
     refine co_then ?_
     refine wp_ret ?_
     refine co_blockR ?_
     refine co_thenR ?_
     refine co_thenR ?_
     refine co_blockR ?_
     refine co_thenR ?_
     refine co_ret1 h37 rfl rfl ?_
     exact ⟨ret_int (by rw [stN_stop (l := l) (i := i) (by assumption) hy23 (by omega)]), hB9⟩
set_option maxRecDepth 100000 in
theorem itemLast_any (v : Value) (l : List EntT) (w : World) (hs : SliceOf entE 4 w v l) (hok : ∀ z ∈ l, EntOk w z) :
    Calls Try.prog 80 #[v] w fun e w' => e = .returned (.int .u64 (lastT l)) ∧ Below w.heap.size w w' := by
 have hst := stN_le l
 have hB0 := Below.refl w.heap.size w
 have hl_hs := sl_len hs
 refine co_enter (n := 14) Try.func80 rfl rfl rfl [(0, v)] rfl (fun a h0 => ?_)
 refine co_seq ?_
 refine co_reg ?_
 refine pk0 (v := .int .u64 0) h0 rfl fun a1 h1 => ?_; clear h0
 refine pl_nil ?_
 refine co_then ?_
 refine co_seq ?_
 refine co_reg ?_
 refine pk0 (v := v) h1 rfl fun a2 h2 => ?_; clear h1
 refine pw h2 rfl (op_call (args := #[v]) (R := fun res xw => res = .int .i64 ((stN l : Nat) : Int) ∧ Below w.heap.size w xw) rfl rfl rfl (by kernel_rfl) (by kernel_rfl) (Try.call70 _ _) (itemStamped_any v l w hs hok) (by rintro e x ⟨rfl, hb5⟩; exact ⟨_, rfl, ⟨rfl, hb5⟩⟩)) ?_; clear h2
 rintro _ w4 a3 ⟨rfl, hb5⟩ h3
 have hz6 := hb5.size
 refine pk0 (v := .int .i64 ((stN l : Nat) : Int)) h3 rfl fun a7 h7 => ?_; clear h3
 refine pl_nil ?_
 refine co_then ?_
 refine co_seq ?_
 refine co_seq ?_
 refine co_reg ?_
 refine pk0 (v := .int .i64 ((stN l : Nat) : Int)) h7 rfl fun a8 h8 => ?_; clear h7
 refine pk0 (v := .bool (((stN l : Nat) : Int) == 0)) h8 rfl fun a9 h9 => ?_; clear h8
 refine pl_nil ?_
 refine co_then ?_
 have hB11 := hb_call hB0 hb5
 cases hc10 : (((stN l : Nat) : Int) == 0)
 ·
  rw [hc10] at h9
  have hp12 : ¬ (((stN l : Nat) : Int) = 0) := by first | simpa using hc10 | simpa [and_assoc] using hc10
  clear hc10
  refine co_false h9 rfl ?_
  refine wp_skip ?_
  refine co_then ?_
  refine co_seq ?_
  refine co_reg ?_
  refine pk0 (v := v) h9 rfl fun a13 h13 => ?_; clear h9
  refine pk0 (v := .int .i64 ((stN l : Nat) : Int)) h13 rfl fun a14 h14 => ?_; clear h13
  refine pk (v := .int .i64 (((stN l : Nat) : Int) - 1)) h14 rfl (rn_arith rfl rfl rfl rfl rfl rfl (IntWalk.i64_in _ (by omega))) fun a15 h15 => ?_; clear h14
  obtain ⟨y16, hy16⟩ : ∃ z, l[(((stN l : Nat) : Int) - 1).toNat]? = some z := ⟨_, List.getElem?_eq_getElem (by first | omega | (simp; done) | (simp; omega))⟩
  have oky16 := hok _ (List.mem_of_getElem? hy16)
  have k17 : 0 ≤ y16.ts := oky16.ts0
  have k18 : y16.ts < 18446744073709551616 := oky16.ts1
  refine pk (v := pt (blkOf v) (offOf v + ((((stN l : Nat) : Int) - 1).toNat) * 4)) h15 rfl (rn_index rfl rfl rfl Try.underlying69 Try.sizeOf38 (hs.below hB11) (by omega) (by first | omega | (simp; done) | (simp; omega))) fun a19 h19 => ?_; clear h15
  refine pk0 (v := pt (blkOf v) (offOf v + ((((stN l : Nat) : Int) - 1).toNat) * 4 + 3)) h19 rfl fun a20 h20 => ?_; clear h19
  refine pk (v := .int .u64 y16.ts) h20 rfl (rn_load1 rfl rfl Try.isAgg29 ((sl_at (hs.below hB11) hy16) 3 _ rfl)) fun a21 h21 => ?_; clear h20
  refine pk0 (v := .int .u64 y16.ts) h21 rfl fun a22 h22 => ?_; clear h21
  refine pl_nil ?_
  refine co_then ?_
  refine wp_ret ?_
  refine co_ret1 h22 rfl rfl ?_
  exact ⟨ret_int (lastT_at (j := (((stN l : Nat) : Int) - 1).toNat) (by omega) (by omega) hy16), hB11⟩
 ·
  rw [hc10] at h9
  have hp23 : ((stN l : Nat) : Int) = 0 := by first | simpa using hc10 | simpa [and_assoc] using hc10
  clear hc10
  refine co_true h9 rfl ?_
  refine co_seq ?_
  refine co_reg ?_
  refine pk0 (v := .int .u64 0) h9 rfl fun a24 h24 => ?_; clear h9
  refine pl_nil ?_
  refine co_then ?_
  refine wp_ret ?_
  refine co_thenR ?_
  refine co_ret1 h24 rfl rfl ?_
  exact ⟨ret_int (lastT_0 (by omega)), hB11⟩
set_option maxRecDepth 100000 in
theorem ritemLast_any (v : Value) (l : List EntT) (w : World) (hs : SliceOf entE 4 w v l) (hok : ∀ z ∈ l, EntOk w z) :
    Calls Try.prog 44 #[v] w fun e w' => e = .returned (.int .u64 (lastT l)) ∧ Below w.heap.size w w' := by
 have hst := stN_le l
 have hB0 := Below.refl w.heap.size w
 have hl_hs := sl_len hs
 refine co_enter (n := 14) Try.func44 rfl rfl rfl [(0, v)] rfl (fun a h0 => ?_)
 refine co_seq ?_
 refine co_reg ?_
 refine pk0 (v := .int .u64 0) h0 rfl fun a1 h1 => ?_; clear h0
 refine pl_nil ?_
 refine co_then ?_
 refine co_seq ?_
 refine co_reg ?_
 refine pk0 (v := v) h1 rfl fun a2 h2 => ?_; clear h1
 refine pw h2 rfl (op_call (args := #[v]) (R := fun res xw => res = .int .i64 ((stN l : Nat) : Int) ∧ Below w.heap.size w xw) rfl rfl rfl (by kernel_rfl) (by kernel_rfl) (Try.call42 _ _) (ritemStamped_any v l w hs hok) (by rintro e x ⟨rfl, hb5⟩; exact ⟨_, rfl, ⟨rfl, hb5⟩⟩)) ?_; clear h2
 rintro _ w4 a3 ⟨rfl, hb5⟩ h3
 have hz6 := hb5.size
 refine pk0 (v := .int .i64 ((stN l : Nat) : Int)) h3 rfl fun a7 h7 => ?_; clear h3
 refine pl_nil ?_
 refine co_then ?_
 refine co_seq ?_
 refine co_seq ?_
 refine co_reg ?_
 refine pk0 (v := .int .i64 ((stN l : Nat) : Int)) h7 rfl fun a8 h8 => ?_; clear h7
 refine pk0 (v := .bool (((stN l : Nat) : Int) == 0)) h8 rfl fun a9 h9 => ?_; clear h8
 refine pl_nil ?_
 refine co_then ?_
 have hB11 := hb_call hB0 hb5
 cases hc10 : (((stN l : Nat) : Int) == 0)
 ·
  rw [hc10] at h9
  have hp12 : ¬ (((stN l : Nat) : Int) = 0) := by first | simpa using hc10 | simpa [and_assoc] using hc10
  clear hc10
  refine co_false h9 rfl ?_
  refine wp_skip ?_
  refine co_then ?_
  refine co_seq ?_
  refine co_reg ?_
  refine pk0 (v := v) h9 rfl fun a13 h13 => ?_; clear h9
  refine pk0 (v := .int .i64 ((stN l : Nat) : Int)) h13 rfl fun a14 h14 => ?_; clear h13
  refine pk (v := .int .i64 (((stN l : Nat) : Int) - 1)) h14 rfl (rn_arith rfl rfl rfl rfl rfl rfl (IntWalk.i64_in _ (by omega))) fun a15 h15 => ?_; clear h14
  obtain ⟨y16, hy16⟩ : ∃ z, l[(((stN l : Nat) : Int) - 1).toNat]? = some z := ⟨_, List.getElem?_eq_getElem (by first | omega | (simp; done) | (simp; omega))⟩
  have oky16 := hok _ (List.mem_of_getElem? hy16)
  have k17 : 0 ≤ y16.ts := oky16.ts0
  have k18 : y16.ts < 18446744073709551616 := oky16.ts1
  refine pk (v := pt (blkOf v) (offOf v + ((((stN l : Nat) : Int) - 1).toNat) * 4)) h15 rfl (rn_index rfl rfl rfl Try.underlying69 Try.sizeOf38 (hs.below hB11) (by omega) (by first | omega | (simp; done) | (simp; omega))) fun a19 h19 => ?_; clear h15
  refine pk0 (v := pt (blkOf v) (offOf v + ((((stN l : Nat) : Int) - 1).toNat) * 4 + 3)) h19 rfl fun a20 h20 => ?_; clear h19
  refine pk (v := .int .u64 y16.ts) h20 rfl (rn_load1 rfl rfl Try.isAgg29 ((sl_at (hs.below hB11) hy16) 3 _ rfl)) fun a21 h21 => ?_; clear h20
  refine pk0 (v := .int .u64 y16.ts) h21 rfl fun a22 h22 => ?_; clear h21
  refine pl_nil ?_
  refine co_then ?_
  refine wp_ret ?_
  refine co_ret1 h22 rfl rfl ?_
  exact ⟨ret_int (lastT_at (j := (((stN l : Nat) : Int) - 1).toNat) (by omega) (by omega) hy16), hB11⟩
 ·
  rw [hc10] at h9
  have hp23 : ((stN l : Nat) : Int) = 0 := by first | simpa using hc10 | simpa [and_assoc] using hc10
  clear hc10
  refine co_true h9 rfl ?_
  refine co_seq ?_
  refine co_reg ?_
  refine pk0 (v := .int .u64 0) h9 rfl fun a24 h24 => ?_; clear h9
  refine pl_nil ?_
  refine co_then ?_
  refine wp_ret ?_
  refine co_thenR ?_
  refine co_ret1 h24 rfl rfl ?_
  exact ⟨ret_int (lastT_0 (by omega)), hB11⟩
set_option maxRecDepth 100000 in
theorem much_any (v : Value) (l : List EntT) (w : World) (hs : SliceOf entE 4 w v l) (hok : ∀ z ∈ l, EntOkS w z) (hl : l.length ≤ 2932031007403) :
    Calls Try.prog 24 #[v] w fun e w' => e = .returned (.int .i64 (muchN l)) ∧ Below w.heap.size w w' := by
 have hB0 := Below.refl w.heap.size w
 have hl_hs := sl_len hs
 refine co_enter (n := 27) Try.func24 rfl rfl rfl [(0, v)] rfl (fun a h0 => ?_)
 refine co_seq ?_
 refine co_reg ?_
 refine pk0 (v := .int .i64 0) h0 rfl fun a1 h1 => ?_; clear h0
 refine pl_nil ?_
 refine co_then ?_
 refine co_seq ?_
 refine co_reg ?_
 refine pk0 (v := v) h1 rfl fun a2 h2 => ?_; clear h1
 refine pk (v := .int .i64 ((l.length : Nat) : Int)) h2 rfl (rn_len rfl rfl Try.underlying69 hs) fun a3 h3 => ?_; clear h2
 refine pk0 (v := .int .i64 ((l.length : Nat) : Int)) h3 rfl fun a4 h4 => ?_; clear h3
 refine pl_nil ?_
 refine co_then ?_
 refine co_seq ?_
 refine co_seq ?_
 refine co_reg ?_
 refine pk0 (v := .int .i64 0) h4 rfl fun a5 h5 => ?_; clear h4
 refine pl_nil ?_
 refine co_then ?_
 refine wp_block ?_
 have h6 : Slots 27 [(0, v), (3, .int .i64 ((l.length : Nat) : Int)), (4, .int .i64 0)] _ := h5.sub ⟨rfl, rfl, rfl, trivial⟩; clear h5
 refine co_loop (fun mm a x => ∃ (i : Nat), Slots 27 [(0, v), (3, .int .i64 ((l.length : Int) + sumN (l.take i))), (4, .int .i64 ((i : Nat) : Int))] a ∧ mm = l.length - i ∧ (i ≤ l.length) ∧ (i ≤ 200) ∧ Below w.heap.size w x) (l.length - 0) ?_ ?_
 · exact ⟨0, h6.sub ⟨rfl, (slot_eq rfl (congrArg (Value.int .i64) (by first | (simp [sumN]; done) | (rw [hst]; omega)))), (slot_eq rfl (congrArg (Value.int .i64) (by first | rfl | omega))), trivial⟩, rfl, by omega, by omega, hB0⟩
 · rintro k7 a8 w9 ⟨i, h8, rfl, hi10, hi11, hB12⟩
   have hz13 := hB12.size
   have hsm := sumN_takes (l := l) hok i (by omega)
   refine co_seq ?_
   refine co_seq ?_
   refine co_reg ?_
   refine pk0 (v := .int .i64 ((i : Nat) : Int)) h8 rfl fun a14 h14 => ?_; clear h8
   refine pk0 (v := v) h14 rfl fun a15 h15 => ?_; clear h14
   refine pk (v := .int .i64 ((l.length : Nat) : Int)) h15 rfl (rn_len rfl rfl Try.underlying69 (hs.below hB12)) fun a16 h16 => ?_; clear h15
   refine pk0 (v := .bool (decide (((i : Nat) : Int) < ((l.length : Nat) : Int)))) h16 rfl fun a17 h17 => ?_; clear h16
   refine pk0 (v := .bool (decide (((i : Nat) : Int) < ((l.length : Nat) : Int)))) h17 rfl fun a18 h18 => ?_; clear h17
   cases hc19 : (decide (((i : Nat) : Int) < ((l.length : Nat) : Int)))
   ·
    rw [hc19] at h18
    have hp20 : ¬ (((i : Nat) : Int) < ((l.length : Nat) : Int)) := of_decide_eq_false hc19
    clear hc19
    refine psk h18 rfl fun a21 h21 => ?_; clear h18
    refine psk h21 rfl fun a22 h22 => ?_; clear h21
    refine pk0 (v := .bool false) h22 rfl fun a23 h23 => ?_; clear h22
    refine pl_nil ?_
    refine co_then ?_
    refine co_false h23 rfl ?_
    refine wp_exit ?_
    refine co_thenX ?_
    refine co_thenX ?_
    refine co_blockX ?_
    refine co_then ?_
    refine co_seq ?_
    refine co_reg ?_
    refine pk0 (v := .int .i64 ((l.length : Int) + sumN (l.take i))) h23 rfl fun a24 h24 => ?_; clear h23
    refine pk0 (v := .int .i64 ((l.length : Int) + sumN (l.take i))) h24 rfl fun a25 h25 => ?_; clear h24
    refine pl_nil ?_
    refine co_then ?_
    refine wp_ret ?_
    refine co_ret1 h25 rfl rfl ?_
    have htk : l.take i = l.take 200 := by rcases Nat.lt_or_ge i l.length with hq | hq; (have : i = 200 := by omega); (subst this; rfl); (rw [List.take_of_length_le hq, List.take_of_length_le (by omega)])
    exact ⟨ret_int (by unfold muchN; rw [htk]), hB12⟩
   ·
    rw [hc19] at h18
    have hp26 : ((i : Nat) : Int) < ((l.length : Nat) : Int) := of_decide_eq_true hc19
    clear hc19
    refine pk0 (v := .int .i64 ((i : Nat) : Int)) h18 rfl fun a27 h27 => ?_; clear h18
    refine pk0 (v := .bool (decide (((i : Nat) : Int) < 200))) h27 rfl fun a28 h28 => ?_; clear h27
    refine pk0 (v := .bool (decide (((i : Nat) : Int) < 200))) h28 rfl fun a29 h29 => ?_; clear h28
    refine pl_nil ?_
    refine co_then ?_
    cases hc30 : (decide (((i : Nat) : Int) < 200))
    ·
     rw [hc30] at h29
     have hp31 : ¬ (((i : Nat) : Int) < 200) := of_decide_eq_false hc30
     clear hc30
     refine co_false h29 rfl ?_
     refine wp_exit ?_
     refine co_thenX ?_
     refine co_thenX ?_
     refine co_blockX ?_
     refine co_then ?_
     refine co_seq ?_
     refine co_reg ?_
     refine pk0 (v := .int .i64 ((l.length : Int) + sumN (l.take i))) h29 rfl fun a32 h32 => ?_; clear h29
     refine pk0 (v := .int .i64 ((l.length : Int) + sumN (l.take i))) h32 rfl fun a33 h33 => ?_; clear h32
     refine pl_nil ?_
     refine co_then ?_
     refine wp_ret ?_
     refine co_ret1 h33 rfl rfl ?_
     have htk : l.take i = l.take 200 := by rcases Nat.lt_or_ge i l.length with hq | hq; (have : i = 200 := by omega); (subst this; rfl); (rw [List.take_of_length_le hq, List.take_of_length_le (by omega)])
     exact ⟨ret_int (by unfold muchN; rw [htk]), hB12⟩
    ·
     rw [hc30] at h29
     have hp34 : ((i : Nat) : Int) < 200 := of_decide_eq_true hc30
     clear hc30
     refine co_true h29 rfl ?_
     refine wp_skip ?_
     refine co_then ?_
     refine co_seq ?_
     refine wp_block ?_
     refine co_reg ?_
     refine pk0 (v := .int .i64 ((l.length : Int) + sumN (l.take i))) h29 rfl fun a35 h35 => ?_; clear h29
     refine pk0 (v := v) h35 rfl fun a36 h36 => ?_; clear h35
     refine pk0 (v := .int .i64 ((i : Nat) : Int)) h36 rfl fun a37 h37 => ?_; clear h36
     obtain ⟨y38, hy38⟩ : ∃ z, l[i]? = some z := ⟨_, List.getElem?_eq_getElem (by first | omega | (simp; done) | (simp; omega))⟩
     have oky38 := hok _ (List.mem_of_getElem? hy38)
     have k39 : 0 ≤ y38.ts := oky38.1.ts0
     have k40 : y38.ts < 18446744073709551616 := oky38.1.ts1
     have k41 : y38.opl.length ≤ 3518437208883 := oky38.2
     refine pk (v := pt (blkOf v) (offOf v + i * 4)) h37 rfl (rn_index rfl rfl rfl Try.underlying69 Try.sizeOf38 (hs.below hB12) (by omega) (by first | omega | (simp; done) | (simp; omega))) fun a42 h42 => ?_; clear h37
     refine pk0 (v := pt (blkOf v) (offOf v + i * 4)) h42 rfl fun a43 h43 => ?_; clear h42
     refine pk0 (v := pt (blkOf v) (offOf v + i * 4 + 2)) h43 rfl fun a44 h44 => ?_; clear h43
     refine pk (v := y38.ops) h44 rfl (rn_load1 rfl rfl Try.isAgg34 ((sl_at (hs.below hB12) hy38) 2 _ rfl)) fun a45 h45 => ?_; clear h44
     refine pk (v := .int .i64 ((y38.opl.length : Nat) : Int)) h45 rfl (rn_len rfl rfl Try.underlying34 (oky38.1.ops.below hB12)) fun a46 h46 => ?_; clear h45
     refine pk (v := .int .i64 (((l.length : Int) + sumN (l.take i)) + ((y38.opl.length : Nat) : Int))) h46 rfl (rn_arith rfl rfl rfl rfl rfl rfl (IntWalk.i64_in _ (by omega))) fun a47 h47 => ?_; clear h46
     refine pk0 (v := .int .i64 (((l.length : Int) + sumN (l.take i)) + ((y38.opl.length : Nat) : Int))) h47 rfl fun a48 h48 => ?_; clear h47
     refine pl_nil ?_
     refine co_blockN ?_
     refine co_then ?_
     refine co_reg ?_
     refine pk0 (v := .int .i64 ((i : Nat) : Int)) h48 rfl fun a49 h49 => ?_; clear h48
     refine pk (v := .int .i64 ((i + 1 : Nat) : Int)) h49 rfl (rn_arith' rfl rfl rfl rfl rfl rfl (IntWalk.i64_in _ (by omega)) (by omega)) fun a50 h50 => ?_; clear h49
     refine pk0 (v := .int .i64 ((i + 1 : Nat) : Int)) h50 rfl fun a51 h51 => ?_; clear h50
     refine pl_nil ?_
     refine co_then ?_
     refine ⟨(l.length - (i + 1)), by omega, ?_⟩
     have hst := sumN_step hy38
     exact ⟨i + 1, h51.sub ⟨rfl, (slot_eq rfl (congrArg (Value.int .i64) (by first | (simp [sumN]; done) | (rw [hst]; omega)))), rfl, trivial⟩, rfl, by omega, by omega, hB12⟩
end Go.Proofs.Ytlbemlodcdgakaa

/- Package rlog: its parts; New, restamp; fresh copies. Conditions: at most 100 entries, 20 operations each. -/
namespace Go.Proofs.Ytlbemlodcdgakaa
open Go.RowKit Go.PlainAid
set_option linter.unusedVariables false


def nmE (e : EntT) : Int × Int := (e.client, e.req)
def spotV (i : Int) : Value := .agg #[.int .i64 i]
/-- Where a name stands first. -/
def findN (L : List EntT) (k : Int × Int) : Option Int := Option.map (fun i : Nat => (i : Int)) ((L.map nmE).findIdx? fun q => decide (q = k))
def UqN (L : List EntT) : Prop := (L.map nmE).Nodup
theorem findN_none {L : List EntT} {k : Int × Int} : findN L k = none ↔ ∀ z ∈ L, nmE z ≠ k := by
  unfold findN
  rw [Option.map_eq_none_iff, List.findIdx?_eq_none_iff]
  simp only [List.mem_map, decide_eq_false_iff_not]
  exact ⟨fun h z hz => h _ ⟨z, hz, rfl⟩, fun h q ⟨z, hz, e⟩ => e ▸ h z hz⟩
theorem UqN.at {L : List EntT} (h : UqN L) {i j : Nat} {y z : EntT} (hy : L[i]? = some y) (hz : L[j]? = some z) (e : nmE y = nmE z) : i = j := by
  unfold UqN at h
  obtain ⟨hi, rfl⟩ := List.getElem?_eq_some_iff.1 hy
  obtain ⟨hj, rfl⟩ := List.getElem?_eq_some_iff.1 hz
  exact (List.getElem_inj (xs := L.map nmE) (h₀ := by simpa using hi) (h₁ := by simpa using hj) h).1 (by simpa using e)
theorem UqN.take {L : List EntT} (h : UqN L) (i : Nat) : UqN (L.take i) := by unfold UqN at h ⊢; rw [List.map_take]; exact List.Nodup.sublist (List.take_sublist _ _) h
theorem UqN.snoc {L : List EntT} {e : EntT} (h : UqN L) (hn : findN L (nmE e) = none) : UqN (L ++ [e]) := by
  unfold UqN at h ⊢
  rw [List.map_append, List.nodup_append]
  refine ⟨h, by simp, fun a ha b hb => ?_⟩
  simp at hb ha
  obtain ⟨z, hz, rfl⟩ := ha
  subst hb
  exact findN_none.1 hn z hz
theorem UqN.nm {L L' : List EntT} (h : UqN L) (e : L'.map nmE = L.map nmE) : UqN L' := by unfold UqN at h ⊢; rw [e]; exact h
/-- The i-th has the timestamp ts, those behind it below k have none. -/
def rsL (L : List EntT) (i : Nat) (ts : Int) (k : Nat) : List EntT := L.mapIdx fun j e => if j = i then { e with ts := ts } else if i < j ∧ j < k then { e with ts := 0 } else e
def restF (L : List EntT) (i : Nat) (ts : Int) : List EntT := if (L.getD i default).ts = ts then L else rsL L i ts L.length
theorem rsL_nm (L : List EntT) (i : Nat) (ts : Int) (k : Nat) : (rsL L i ts k).map nmE = L.map nmE := by
  apply List.ext_getElem?
  intro j
  simp only [rsL, List.getElem?_map, List.getElem?_mapIdx]
  cases L[j]? with
  | none => rfl
  | some e => simp only [Option.map_some]; split; rfl; split <;> rfl
theorem restF_same {L : List EntT} {i : Nat} {ts : Int} {y : EntT} (hy : L[i]? = some y) (h : y.ts = ts) : restF L i ts = L := by
  unfold restF; rw [if_pos]; rw [List.getD_eq_getElem?_getD, hy]; exact h
theorem restF_ne {L : List EntT} {i k : Nat} {ts : Int} {y : EntT} (hy : L[i]? = some y) (h : ¬ y.ts = ts) (hk : L.length ≤ k) : rsL L i ts k = restF L i ts := by
  unfold restF; rw [if_neg (by rw [List.getD_eq_getElem?_getD, hy]; exact h)]
  apply List.ext_getElem?
  intro j
  simp only [rsL, List.getElem?_mapIdx]
  cases hj : L[j]? with
  | none => rfl
  | some e =>
    have := (List.getElem?_eq_some_iff.1 hj).1
    simp only [Option.map_some]
    by_cases e1 : j = i
    · rw [if_pos e1, if_pos e1]
    · rw [if_neg e1, if_neg e1]
      by_cases e2 : i < j
      · rw [if_pos ⟨e2, by omega⟩, if_pos ⟨e2, by omega⟩]
      · rw [if_neg (fun q => e2 q.1), if_neg (fun q => e2 q.1)]
theorem rsL_1 {L : List EntT} {i : Nat} {ts : Int} {y : EntT} (hy : L[i]? = some y) : L.set i { y with ts := ts } = rsL L i ts (i + 1) := by
  apply List.ext_getElem?
  intro j
  simp only [rsL, List.getElem?_mapIdx, List.getElem?_set]
  by_cases e1 : i = j
  · subst e1
    have := (List.getElem?_eq_some_iff.1 hy).1
    rw [if_pos rfl, if_pos this, hy]; simp
  · rw [if_neg e1]
    cases hj : L[j]? with
    | none => rfl
    | some e => simp only [Option.map_some]; rw [if_neg (fun q => e1 q.symm), if_neg (by omega)]
/-- An entry whose operations lie in a row of its own. -/
structure EntK (S : Nat → Prop) (n : Nat) (w : World) (e : EntT) : Prop where
  row : w.ownsRow 0 201 3 e.ops e.opl.length (e.opl.flatMap opE)
  ins : InS S n e.ops
  len : e.opl.length ≤ 20
  each : ∀ o ∈ e.opl, opOk o
  ts0 : 0 ≤ e.ts
  ts1 : e.ts < 18446744073709551616
  cl : (Lit.int .i64 e.client).wf = true
  rq : (Lit.int .i64 e.req).wf = true
def EntsK (S : Nat → Prop) (n : Nat) (w : World) (L : List EntT) : Prop := ∀ e ∈ L, EntK S n w e
section
variable {S : Nat → Prop} {n : Nat} {w x : World} {L : List EntT} {e : EntT}
theorem EntK.to (h : EntK S n w e) (hr : x.ownsRow 0 201 3 e.ops e.opl.length (e.opl.flatMap opE)) : EntK S n x e := ⟨hr, h.ins, h.len, h.each, h.ts0, h.ts1, h.cl, h.rq⟩
theorem EntK.ok (h : EntK S n w e) : EntOk w e := ⟨row_sl h.row opE_len, h.each, h.ts0, h.ts1, h.cl, h.rq⟩
theorem EntsK.new (h : EntsK S n w L) (hg : w.grownBy x none) : EntsK S n x L := fun e he => (h e he).to (row_kept_new (h e he).row hg)
theorem EntsK.blk {N : Nat} {T : TypeId} {cs : Array Value} (h : EntsK S n w L) (hb : Blk w N T cs) (hT : 201 ≠ T) (hg : w.grownBy x (some N)) : EntsK S n x L :=
  fun e he => (h e he).to (row_kept_at (h e he).row hg (own_neT (h e he).row hb hT))
theorem EntsK.map {K V : Type} [DecidableEq K] {kv : K → Value} {enc : V → Value} {B c : Nat} {g2 : K → Option V} (h : EntsK S n w L) (hm : MapO kv enc w B g2 c) (hg : w.grownBy x (some B)) : EntsK S n x L :=
  fun e he => (h e he).to (row_kept_at (h e he).row hg (hm.row (h e he).row))
theorem EntsK.row {B sz q : Nat} {T : TypeId} {v : Value} {xs : List Value} (h : EntsK S n w L) (hr : w.ownsRow B T sz v q xs) (hT : 201 ≠ T) (hg : w.grownBy x v.ownBlock) : EntsK S n x L :=
  fun e he => (h e he).to (row_kept_row (h e he).row hr hg hT)
theorem EntsK.take (h : EntsK S n w L) (i : Nat) : EntsK S n w (L.take i) := fun e he => h e (List.mem_of_mem_take he)
theorem EntsK.snoc (h : EntsK S n w L) (he : EntK S n w e) : EntsK S n w (L ++ [e]) := fun z hz => by
  rw [List.mem_append] at hz
  rcases hz with hz | hz
  · exact h z hz
  · simp at hz; subst hz; exact he
theorem EntK.ts (h : EntK S n w e) {t : Int} (ht : 0 ≤ t ∧ t < 18446744073709551616) : EntK S n w { e with ts := t } := ⟨h.row, h.ins, h.len, h.each, ht.1, ht.2, h.cl, h.rq⟩
theorem EntsK.set (h : EntsK S n w L) {i : Nat} {z : EntT} (hz : EntK S n w z) : EntsK S n w (L.set i z) := fun e he => by
  rcases List.mem_or_eq_of_mem_set he with q | q
  · exact h e q
  · exact q ▸ hz
theorem EntsK.at (h : EntsK S n w L) {i : Nat} {y : EntT} (hy : L[i]? = some y) : EntK S n w y := h y (List.mem_of_getElem? hy)
end
/-- A log that was made, with all its parts. -/
structure LgP (S : Nat → Prop) (n : Nat) (w : World) (b M : Nat) (u : Value) (L : List EntT) : Prop where
  blk : Blk w b 172 #[.bool true, u, .map (some M)]
  map : ∃ c, MapO arr2K spotV w M (findN L) c
  row : w.ownsRow 0 38 4 u L.length (L.flatMap entE)
  ents : EntsK S n w L
  sb : S b ∨ n ≤ b
  sM : S M ∨ n ≤ M
  su : InS S n u
  uq : UqN L
  len : L.length ≤ 100

end Go.Proofs.Ytlbemlodcdgakaa

/- Package rlog: Set. Conditions: at most 100 entries, 20 operations each. -/
namespace Go.Proofs.Ytlbemlodcdgakaa
open Go.RowKit Go.PlainAid
set_option linter.unusedVariables false


def setE (L : List EntT) (i : Int) (c r : Int) (l : List OpT) (ts : Int) : Int :=
  if i < 0 ∨ (L.length : Int) < i then 1 else if chkB c r l ≠ 0 then chkB c r l else if 100 ≤ i then 6
  else if (findN (L.take i.toNat) (c, r)).isSome = true then 18 else if badT (L.take i.toNat) (EntT.mk c r (.slice none 0 0) l ts) = true then 18 else 0
section
variable {L : List EntT} {i c r ts : Int} {l : List OpT} {v : Value} {f : Int}
theorem badM_0 {l : List EntT} {i : Nat} {y : EntT} (h : i = 0) : badT (l.take i) y = false := by subst h; simp [badT]
end

end Go.Proofs.Ytlbemlodcdgakaa

/- Package rlog: Stamp, Find, Top, Len, Stamped. Conditions: at most 100 entries, 20 operations each. -/
namespace Go.Proofs.Ytlbemlodcdgakaa
open Go.RowKit Go.PlainAid
set_option linter.unusedVariables false


def e0 (e : EntT) : EntT := { e with ops := .slice none 0 0 }
def stE (L : List EntT) (i ts : Int) : Int := if i < 0 ∨ (L.length : Int) ≤ i then 1 else if ts = 0 then 5 else if i ≠ ((stN L : Nat) : Int) ∨ ts ≤ lastT L then 18 else 0
def stL (L : List EntT) (i ts : Int) : List EntT := if stE L i ts = 0 then rsL L i.toNat ts (i.toNat + 1) else L
section
variable {L : List EntT} {i ts : Int}
theorem stL_no (h : stE L i ts ≠ 0) : stL L i ts = L := by unfold stL; rw [if_neg h]
theorem stL_ok (h : stE L i ts = 0) {y : EntT} (hy : L[i.toNat]? = some y) : stL L i ts = L.set i.toNat { y with ts := ts } := by unfold stL; rw [if_pos h, rsL_1 hy]
theorem stL_nm : (stL L i ts).map nmE = L.map nmE := by unfold stL; split; exact rsL_nm _ _ _ _; rfl
end
theorem e0_snoc {A B : List EntT} {k : Nat} {y z : EntT} (h : A.map e0 = (B.take k).map e0) (hy : B[k]? = some y) (e : e0 z = e0 y) : (A ++ [z]).map e0 = (B.take (k + 1)).map e0 := by
  rw [takeE hy, List.map_append, List.map_append, h]; simp [e]

end Go.Proofs.Ytlbemlodcdgakaa

/- Configurations: members, places. Conditions: none. -/
namespace Go.Proofs.Ytlbemlodcdgakaa
open Go.RowKit Go.PlainAid

/-- A member: Id, Serial. -/
abbrev MemT := Int × Int
def memE (m : MemT) : List Value := [.int .i64 m.1, .int .i64 m.2]
def memV (m : MemT) : Value := .agg #[.int .i64 m.1, .int .i64 m.2]
def memOk (m : MemT) : Prop := (-9223372036854775808 ≤ m.1 ∧ m.1 ≤ 9223372036854775807) ∧ (-9223372036854775808 ≤ m.2 ∧ m.2 ≤ 9223372036854775807)
structure ConfT where
  ep : Int
  mv : Value
  ms : List MemT
  fl : Int
instance : Inhabited ConfT := ⟨⟨0, .slice none 0 0, [], 0⟩⟩
def confE (c : ConfT) : List Value := [.int .i64 c.ep, c.mv, .int .u64 c.fl]
def confV (c : ConfT) : Value := .agg #[.int .i64 c.ep, c.mv, .int .u64 c.fl]
structure ConfOk (w : World) (c : ConfT) : Prop where
  ms : SliceOf memE 2 w c.mv c.ms
  each : ∀ m ∈ c.ms, memOk m
  e0 : -9223372036854775808 ≤ c.ep
  e1 : c.ep ≤ 9223372036854775807
  f0 : 0 ≤ c.fl
  f1 : c.fl < 18446744073709551616
theorem ConfOk.below {w w' : World} {c : ConfT} (h : ConfOk w c) (hb : Below w.heap.size w w') : ConfOk w' c := ⟨h.ms.below hb, h.each, h.e0, h.e1, h.f0, h.f1⟩
theorem neq_mem (a b : MemT) (w : World) : (binOp .neq 158 (memV a) (memV b)).run Try.prog w = .ok (.bool (!(a == b))) w := by
  have u := Try.underlying3
  have hS : Try.prog.underlying 158 = some (.struct (Try.prog.fieldsOf 158)) := by kernel_rfl
  have hp : Try.prog.stoodInHeld 158 = false := by kernel_rfl
  obtain ⟨a1, a2⟩ := a
  obtain ⟨b1, b2⟩ := b
  unfold memV
  rw [run_neq_struct, show (10000 : Nat) = 9999 + 1 from rfl, run_equalIn_agg w 9999 158 _ _ hS hp]
  simp only [Program.fieldsOf, Try.underlying158]
  go_simp
  by_cases h1 : a1 = b1 <;> by_cases h2 : a2 = b2 <;> simp [h1, h2]
end Go.Proofs.Ytlbemlodcdgakaa

/- Package conf and the document's own: what is wrong with a configuration. Conditions: none. -/
namespace Go.Proofs.Ytlbemlodcdgakaa
open Go.RowKit Go.PlainAid

def badId (m : MemT) : Prop := m.1 < 0 ∨ 4 ≤ m.1
def badSer (m : MemT) : Prop := m.2 < 1 ∨ 1073741824 < m.2
instance (m : MemT) : Decidable (badId m) := by unfold badId; infer_instance
instance (m : MemT) : Decidable (badSer m) := by unfold badSer; infer_instance
theorem takeS {α : Type} {l : List α} {i : Nat} (h : i < l.length) : l.take (i + 1) = l.take i ++ [l[i]] := by
  rw [List.take_add_one, List.getElem?_eq_getElem h]; rfl
end Go.Proofs.Ytlbemlodcdgakaa

/- Package conf and the document's own: are two configurations the same? Conditions: none. -/
namespace Go.Proofs.Ytlbemlodcdgakaa
open Go.RowKit Go.PlainAid

def sameC (a b : ConfT) : Bool := decide (a.ep = b.ep ∧ a.fl = b.fl ∧ a.ms = b.ms)
theorem ne_of_at {l k : List MemT} {i : Nat} (h1 : i < l.length) (h2 : i < k.length) (h : l[i] ≠ k[i]) : l ≠ k := by
  intro e; subst e; exact h rfl
theorem eq_of_takes {l k : List MemT} (hl : l.length = k.length) (h : l.take l.length = k.take l.length) : l = k := by
  rw [List.take_length, hl, List.take_length] at h; exact h
theorem two_confs (w : World) (a b : ConfT) : Below w.heap.size w ((w.alloc (.cells #[.int .i64 a.ep, a.mv, .int .u64 a.fl] 32)).alloc (.cells #[.int .i64 b.ep, b.mv, .int .u64 b.fl] 32)) :=
  ((Below.refl _ _).alloc (Nat.le_refl _) _).alloc (by simp) _
set_option maxRecDepth 100000 in
set_option maxHeartbeats 3200000 in
theorem rsame_any (a b : ConfT) (w : World) (ha : ConfOk w a) (hb : ConfOk w b) :
    Calls Try.prog 59 #[confV a, confV b] w fun e w' => e = .returned (.bool (sameC a b)) ∧ Below w.heap.size w w' := by
  obtain ⟨W, hW⟩ : ∃ W, W = ((w.alloc (.cells #[.int .i64 a.ep, a.mv, .int .u64 a.fl] 32)).alloc (.cells #[.int .i64 b.ep, b.mv, .int .u64 b.fl] 32)) := ⟨_, rfl⟩
  have hb1 := two_confs w a b
  rw [← hW] at hb1
  have HB := Lib.hid hb1
  obtain ⟨aep, amv, l, afl⟩ := a
  obtain ⟨bep, bmv, k, bfl⟩ := b
  obtain ⟨ao1, cap1, hv1, hcap1, hcm1, _, hcell1⟩ := ha.ms
  obtain ⟨ao2, cap2, hv2, hcap2, hcm2, _, hcell2⟩ := hb.ms
  simp only at hv1 hcap1 hcell1 hv2 hcap2 hcell2 hW ⊢
  subst hv1 hv2
  have q1 : W.cell? ⟨w.heap.size, 1, none⟩ = some (.slice ao1 l.length cap1) := by rw [hW]; simp
  have q2 : W.cell? ⟨w.heap.size + 1, 1, none⟩ = some (.slice ao2 k.length cap2) := by rw [hW]; simp
  have Q1 := Lib.hid q1; have Q2 := Lib.hid q2; have HW := Lib.hid hW
  have HC1 := Lib.hid hcell1; have HC2 := Lib.hid hcell2
  have heq := fun o m => neq_mem o m
  unfold memV at heq
  have HEq := Lib.hid heq
  clear ha hb hb1 q1 q2 hcell1 hcell2 heq hW
  unfold confV
  have no : ∀ {x : Bool}, sameC ⟨aep, .slice ao1 l.length cap1, l, afl⟩ ⟨bep, .slice ao2 k.length cap2, k, bfl⟩ = x → True := fun _ => trivial
  by_cases h1 : aep = bep
  · by_cases h2 : afl = bfl
    · by_cases hl : l.length = k.length
      · have HF : Hid (sameC ⟨aep, .slice ao1 l.length cap1, l, afl⟩ ⟨bep, .slice ao2 k.length cap2, k, bfl⟩ = decide (l = k)) := Lib.hid (by unfold sameC; simp [h1, h2])
        have h1b : (aep != bep) = false := by simp [h1]
        have h2b : (afl != bfl) = false := by simp [h2]
        have hlb : ((l.length : Int) != (k.length : Int)) = false := by simp [hl]
        have HL := Lib.hid hl
        have hle : l.length ≤ k.length := by omega
        have hge : k.length ≤ l.length := by omega
        clear h1 h2 hl no
        go_enter Try.func59, Try.ntmps59
        go_wp2
        rw [← HW.out]
        go_loopg [5] (l.length + 1) (fun g s5 wr => ∃ i : Nat, s5 = .int .i64 i ∧ i ≤ l.length ∧ l.length + 1 ≤ i + g ∧ l.take i = k.take i ∧ Below W.heap.size W wr)
        case atStart => exact ⟨0, rfl, by omega, by omega, rfl, Below.refl _ _⟩
        case round =>
          obtain ⟨i, rfl, hi, hg, ht, hwr⟩ := hrel
          have HT := Lib.hid ht; have HWR := Lib.hid hwr
          have HBW := Lib.hid (HB.out.trans (hwr.mono HB.out.size))
          have q1 := cell_below hwr Q1.out
          have q2 := cell_below hwr Q2.out
          clear ht hwr
          by_cases hlt : i < l.length
          · have hlt2 : i < k.length := by omega
            obtain ⟨b1, off1, rfl, hr1⟩ := HC1.out i hlt
            obtain ⟨b2, off2, rfl, hr2⟩ := HC2.out i hlt2
            have d0 := cell_below HBW.out (hr1 0 _ rfl)
            have d1 := cell_below HBW.out (hr1 1 _ rfl)
            have e0 := cell_below HBW.out (hr2 0 _ rfl)
            have e1 := cell_below HBW.out (hr2 1 _ rfl)
            rw [Nat.add_zero] at d0 e0
            obtain ⟨o, ho⟩ : ∃ o, o = l[i] := ⟨_, rfl⟩
            obtain ⟨m, hm⟩ : ∃ m, m = k[i] := ⟨_, rfl⟩
            have HO := Lib.hid ho; have HM := Lib.hid hm
            rw [← ho] at d0 d1
            rw [← hm] at e0 e1
            have he := HEq.out o m
            clear hr1 hr2 ho hm
            by_cases hP : o = m
            · have HT2 : Hid (l.take (i + 1) = k.take (i + 1)) := Lib.hid (by rw [takeS hlt, takeS hlt2, HT.out, ← HO.out, ← HM.out, hP])
              rw [show (!(o == m)) = false by simp [hP]] at he
              clear hP
              go_wp2_with fail
              go_quiet (fail)
              go_wp2
              go_roundg (gk - 1)
              case rel => exact ⟨i + 1, by go_num, by omega, by omega, HT2.out, below_draws HWR.out _⟩
              case measure => omega
            · have HF2 : Hid (decide (l = k) = false) := Lib.hid (decide_eq_false (ne_of_at hlt hlt2 (by rw [← HO.out, ← HM.out]; exact hP)))
              rw [show (!(o == m)) = true by simp [hP]] at he
              clear hP
              go_wp2_with fail
              go_quiet (fail)
              go_wp2
              go_ret
              exact ⟨ret_bool (by rw [HF.out, HF2.out]), below_draws HBW.out _⟩
          · have HF2 : Hid (decide (l = k) = true) := Lib.hid (decide_eq_true (eq_of_takes HL.out (by have := HT.out; rw [show i = l.length by omega] at this; exact this)))
            go_wp2
            go_ret
            exact ⟨ret_bool (by rw [HF.out, HF2.out]), HBW.out⟩
      · have HF : Hid (sameC ⟨aep, .slice ao1 l.length cap1, l, afl⟩ ⟨bep, .slice ao2 k.length cap2, k, bfl⟩ = false) := Lib.hid (by unfold sameC; exact decide_eq_false (fun h => hl (congrArg List.length h.2.2)))
        have h1b : (aep != bep) = false := by simp [h1]
        have h2b : (afl != bfl) = false := by simp [h2]
        have hlb : ((l.length : Int) != (k.length : Int)) = true := by rw [bne, beq_eq_false_iff_ne.2 (show (l.length : Int) ≠ k.length by omega)]; rfl
        clear h1 h2 hl no
        go_enter Try.func59, Try.ntmps59
        go_wp2
        go_ret
        exact ⟨ret_bool HF.out.symm, by have := HB.out; rw [HW.out] at this; exact this⟩
    · have HF : Hid (sameC ⟨aep, .slice ao1 l.length cap1, l, afl⟩ ⟨bep, .slice ao2 k.length cap2, k, bfl⟩ = false) := Lib.hid (by unfold sameC; exact decide_eq_false (fun h => h2 h.2.1))
      have h1b : (aep != bep) = false := by simp [h1]
      have h2b : (afl != bfl) = true := by simp [h2]
      clear h1 h2 no
      go_enter Try.func59, Try.ntmps59
      go_wp2
      go_ret
      exact ⟨ret_bool HF.out.symm, by have := HB.out; rw [HW.out] at this; exact this⟩
  · have HF : Hid (sameC ⟨aep, .slice ao1 l.length cap1, l, afl⟩ ⟨bep, .slice ao2 k.length cap2, k, bfl⟩ = false) := Lib.hid (by unfold sameC; exact decide_eq_false (fun h => h1 h.1))
    have h1b : (aep != bep) = true := by simp [h1]
    clear h1 no
    go_enter Try.func59, Try.ntmps59
    go_wp2
    go_ret
    exact ⟨ret_bool HF.out.symm, by have := HB.out; rw [HW.out] at this; exact this⟩
end Go.Proofs.Ytlbemlodcdgakaa

/- Package conf and the document's own: Check, Same, as the generator wants them. Conditions: none. -/
namespace Go.Proofs.Ytlbemlodcdgakaa
open Go.RowKit Go.PlainAid
set_option linter.unusedVariables false

def sameCf (ep : Int) (ms : List MemT) (fl ep2 : Int) (ms2 : List MemT) (fl2 : Int) : Bool := decide (ep = ep2 ∧ fl = fl2 ∧ ms = ms2)
theorem sameCf_refl (ep : Int) (ms : List MemT) (fl : Int) : sameCf ep ms fl ep ms fl = true := by unfold sameCf; simp
theorem wrsame_any (ep : Int) (mv : Value) (ms : List MemT) (fl : Int) (ep2 : Int) (mv2 : Value) (ms2 : List MemT) (fl2 : Int) (w : World) (hs : SliceOf memE 2 w mv ms) (hmk : ∀ m ∈ ms, memOk m) (he : -9223372036854775808 ≤ ep ∧ ep ≤ 9223372036854775807) (hf : 0 ≤ fl ∧ fl < 18446744073709551616) (hs2 : SliceOf memE 2 w mv2 ms2) (hmk2 : ∀ m ∈ ms2, memOk m) (he2 : -9223372036854775808 ≤ ep2 ∧ ep2 ≤ 9223372036854775807) (hf2 : 0 ≤ fl2 ∧ fl2 < 18446744073709551616) :
    Calls Try.prog 59 #[.agg #[.int .i64 ep, mv, .int .u64 fl], .agg #[.int .i64 ep2, mv2, .int .u64 fl2]] w fun e w' => e = .returned (.bool (sameCf ep ms fl ep2 ms2 fl2)) ∧ Below w.heap.size w w' := rsame_any ⟨ep, mv, ms, fl⟩ ⟨ep2, mv2, ms2, fl2⟩ w ⟨hs, hmk, he.1, he.2, hf.1, hf.2⟩ ⟨hs2, hmk2, he2.1, he2.2, hf2.1, hf2.2⟩

end Go.Proofs.Ytlbemlodcdgakaa

/- A range over a text: the call's own place among its bytes. Conditions: the bytes are below 128. -/
namespace Go.Proofs.Ytlbemlodcdgakaa
open Go.RowKit Go.PlainAid Go.ChangeMaps
def SIt (w : World) (r : Nat) (s : ByteArray) (pos : Nat) : Prop := w.heap[r]? = some (.stringIter s pos)
section
variable {P : Program} {n : Nat} {m : List (Nat × Value)} {w x : World} {o : Oper} {r pos : Nat} {s : ByteArray} {q : Operand} {t : TypeId}
theorem SIt.lt (h : SIt w r s pos) : r < w.heap.size := (Array.getElem?_eq_some_iff.1 (show w.heap[r]? = _ from h)).1
theorem SIt.kept {row : Option Nat} (h : SIt w r s pos) (hg : w.grownBy x row) (h2 : row ≠ some r) : SIt x r s pos := by
  unfold SIt; rw [hg.block r h.lt (fun e => h2 e.symm)]; exact h
theorem SIt.row {B' : Nat} {T : TypeId} {sz k : Nat} {v : Value} {xs : List Value} (h : SIt w r s pos) (hr : w.ownsRow B' T sz v k xs) : v.ownBlock ≠ some r := by
  intro e
  obtain ⟨_, h2⟩ := hr
  rcases h2 with h2 | ⟨g, cap, cur, hv, hg, hh, _⟩
  · rw [h2.1] at e; simp [Value.ownBlock] at e
  · rw [hv] at e
    simp only [Value.ownBlock, Option.some.injEq] at e
    subst e
    rw [show w.heap[g]? = _ from h] at hh; cases hh
theorem SIt.but {S : Nat → Prop} (h : SIt w r s pos) (hb : But S w x) (hn : ¬ S r) : SIt x r s pos := by
  unfold SIt; rw [hb.block r h.lt hn]; exact h
end
end Go.Proofs.Ytlbemlodcdgakaa

/- Package mess: parts, numbers, lists checked. Conditions: none. -/
namespace Go.Proofs.Ytlbemlodcdgakaa
open Go.RowKit Go.PlainAid
set_option linter.unusedVariables false


abbrev PrT := ByteArray × ByteArray
def prE (y : PrT) : List Value := [.string y.1, .string y.2]
theorem intE_len (k : IntKind) (y : Int) : (intE k y).length = 1 := rfl
/-- A message, without where its lists lie. -/
structure MsgD where
  k : Int
  ep : Int
  rq : Int
  sr : Int
  fg : Bool
  at_ : Int
  la : Int
  n : Int
  m : Int
  p : Int
  e : Int
  key : ByteArray
  to_ : ByteArray
  cep : Int
  cms : List MemT
  cfl : Int
  bc : Int
  br : Int
  bl : List OpT
  en : List EntT
  st : List Int
  pr : List PrT
/-- What is known of a message that may be. -/
structure MsgR (d : MsgD) : Prop where
  mem : ∀ m ∈ d.cms, memOk m
  rng : (-9223372036854775808 ≤ d.cep ∧ d.cep ≤ 9223372036854775807) ∧ (0 ≤ d.cfl ∧ d.cfl < 18446744073709551616) ∧ (0 ≤ d.at_ ∧ d.at_ < 18446744073709551616) ∧ (0 ≤ d.la ∧ d.la < 18446744073709551616)
  st : ∀ t ∈ d.st, 0 ≤ t ∧ t < 18446744073709551616
theorem dropM {α : Type} {l : List α} {i : Nat} {y : α} (h : l[i]? = some y) : l.drop i = y :: l.drop (i + 1) := by
  obtain ⟨hi, rfl⟩ := List.getElem?_eq_some_iff.1 h
  exact List.drop_eq_getElem_cons hi
def numL (p : Int) : Prop := p = 101 ∨ p = 115 ∨ p = 113 ∨ p = 110 ∨ p = 109 ∨ p = 112
instance (p : Int) : Decidable (numL p) := by unfold numL; infer_instance
end Go.Proofs.Ytlbemlodcdgakaa

/- Package mess: Check. Conditions: none. -/
namespace Go.Proofs.Ytlbemlodcdgakaa
open Go.RowKit Go.PlainAid
set_option linter.unusedVariables false


theorem nn {p : Int} (h : ¬ (p = 101 ∨ p = 115 ∨ p = 113 ∨ p = 110 ∨ p = 109 ∨ p = 112)) : ¬ numL p := h
end Go.Proofs.Ytlbemlodcdgakaa

/- Entries with up to 100 operations, as rows of one's own; fresh.Batch, Entry, Entries. Conditions: up to 100 entries, 100 operations each. -/
namespace Go.Proofs.Ytlbemlodcdgakaa
open Go.RowKit Go.PlainAid
set_option linter.unusedVariables false
set_option linter.unusedSimpArgs false

structure EntH (S : Nat → Prop) (n : Nat) (w : World) (e : EntT) : Prop where
  row : w.ownsRow 0 201 3 e.ops e.opl.length (e.opl.flatMap opE)
  ins : InS S n e.ops
  len : e.opl.length ≤ 100
  each : ∀ o ∈ e.opl, opOk o
  ts0 : 0 ≤ e.ts
  ts1 : e.ts < 18446744073709551616
  cl : (Lit.int .i64 e.client).wf = true
  rq : (Lit.int .i64 e.req).wf = true
def EntsH (S : Nat → Prop) (n : Nat) (w : World) (L : List EntT) : Prop := ∀ e ∈ L, EntH S n w e
section
variable {S : Nat → Prop} {n : Nat} {w x : World} {L : List EntT} {e : EntT}
theorem EntH.to (h : EntH S n w e) (hr : x.ownsRow 0 201 3 e.ops e.opl.length (e.opl.flatMap opE)) : EntH S n x e := ⟨hr, h.ins, h.len, h.each, h.ts0, h.ts1, h.cl, h.rq⟩
theorem EntH.ok (h : EntH S n w e) : EntOk w e := ⟨row_sl h.row opE_len, h.each, h.ts0, h.ts1, h.cl, h.rq⟩
theorem EntsH.new (h : EntsH S n w L) (hg : w.grownBy x none) : EntsH S n x L := fun e he => (h e he).to (row_kept_new (h e he).row hg)
theorem EntsH.blk {N : Nat} {T : TypeId} {cs : Array Value} (h : EntsH S n w L) (hb : Blk w N T cs) (hT : 201 ≠ T) (hg : w.grownBy x (some N)) : EntsH S n x L :=
  fun e he => (h e he).to (row_kept_at (h e he).row hg (own_neT (h e he).row hb hT))
theorem EntsH.map {K V : Type} [DecidableEq K] {kv : K → Value} {enc : V → Value} {B c : Nat} {g2 : K → Option V} (h : EntsH S n w L) (hm : MapO kv enc w B g2 c) (hg : w.grownBy x (some B)) : EntsH S n x L :=
  fun e he => (h e he).to (row_kept_at (h e he).row hg (hm.row (h e he).row))
theorem EntsH.row {B sz q : Nat} {T : TypeId} {v : Value} {xs : List Value} (h : EntsH S n w L) (hr : w.ownsRow B T sz v q xs) (hT : 201 ≠ T) (hg : w.grownBy x v.ownBlock) : EntsH S n x L :=
  fun e he => (h e he).to (row_kept_row (h e he).row hr hg hT)
theorem EntsH.take (h : EntsH S n w L) (i : Nat) : EntsH S n w (L.take i) := fun e he => h e (List.mem_of_mem_take he)
theorem EntsH.snoc (h : EntsH S n w L) (he : EntH S n w e) : EntsH S n w (L ++ [e]) := fun z hz => by
  rw [List.mem_append] at hz
  rcases hz with hz | hz
  · exact h z hz
  · simp at hz; subst hz; exact he
theorem EntH.ts (h : EntH S n w e) {t : Int} (ht : 0 ≤ t ∧ t < 18446744073709551616) : EntH S n w { e with ts := t } := ⟨h.row, h.ins, h.len, h.each, ht.1, ht.2, h.cl, h.rq⟩
theorem EntsH.set (h : EntsH S n w L) {i : Nat} {z : EntT} (hz : EntH S n w z) : EntsH S n w (L.set i z) := fun e he => by
  rcases List.mem_or_eq_of_mem_set he with q | q
  · exact h e q
  · exact q ▸ hz
theorem EntsH.at (h : EntsH S n w L) {i : Nat} {y : EntT} (hy : L[i]? = some y) : EntH S n w y := h y (List.mem_of_getElem? hy)
end

theorem entsH_got {S : Nat → Prop} {n : Nat} {w : World} {L : List EntT} (h : EntsH S n w L) : ∀ z ∈ L, EntOk w z := fun z hz => (h z hz).ok
def mxI (a b : Int) : Int := if a < b then b else a
def mnI (a b : Int) : Int := if b < a then b else a
theorem mxI_p (a b : Int) : mxI a b ≥ a ∧ mxI a b ≥ b ∧ (mxI a b = a ∨ mxI a b = b) := by unfold mxI; split <;> omega
theorem mnI_p (a b : Int) : mnI a b ≤ a ∧ mnI a b ≤ b ∧ (mnI a b = a ∨ mnI a b = b) := by unfold mnI; split <;> omega
theorem co_unroll {P : Program} {c : Code} {Q : Exit → Act → World → Prop} {n : Nat} {a : Act} {w : World} (h : c.wp P (Exit.then (Code.rounds P c Q n) Q) a w) : Code.rounds P c Q (n + 1) a w := h

set_option maxRecDepth 100000 in
theorem cloneH_any (v : Value) (l : List OpT) (w : World) (hs : SliceOf opE 3 w v l) (hlen : l.length ≤ 100) :
    Calls Try.prog 154 #[v] w fun e w' => ∃ (u : Value), e = .returned (u) ∧ w'.ownsRow w.heap.size 201 3 u l.length (l.flatMap opE) ∧ Below w.heap.size w w' := by
 have hB0 := Below.refl w.heap.size w
 have hl_hs := sl_len hs
 have hs' := hs; obtain ⟨ao, cap, hv, _, _, h3, _⟩ := hs'; subst hv; rcases ao with _ | ad
 · obtain ⟨hl0, hc0⟩ := h3 rfl; obtain rfl : l = [] := List.eq_nil_of_length_eq_zero hl0; subst hc0
   refine co_enter (n := 8) Try.func154 rfl rfl rfl [(0, .slice none 0 0)] rfl (fun a h0 => ?_)
   refine co_seq ?_
   refine co_reg ?_
   refine pk0 (v := .slice none 0 0) h0 rfl fun a1 h1 => ?_; clear h0
   refine pl_nil ?_
   refine co_then ?_
   refine co_seq ?_
   refine co_seq ?_
   refine co_reg ?_
   refine pk0 (v := .slice none 0 0) h1 rfl fun a2 h2 => ?_; clear h1
   refine pk0 (v := .bool true) h2 rfl fun a3 h3 => ?_; clear h2
   refine pl_nil ?_
   refine co_then ?_
   refine co_true h3 rfl ?_
   refine co_seq ?_
   refine co_reg ?_
   refine pk0 (v := .slice none 0 0) h3 rfl fun a4 h4 => ?_; clear h3
   refine pl_nil ?_
   refine co_then ?_
   refine wp_ret ?_
   refine co_thenR ?_
   refine co_ret1 h4 rfl rfl ?_
   exact ⟨_, rfl, (row_nilL _ _ _ _ _), hB0⟩
 · skip
   refine co_enter (n := 8) Try.func154 rfl rfl rfl [(0, .slice (some ad) l.length cap)] rfl (fun a h0 => ?_)
   refine co_seq ?_
   refine co_reg ?_
   refine pk0 (v := .slice none 0 0) h0 rfl fun a5 h5 => ?_; clear h0
   refine pl_nil ?_
   refine co_then ?_
   refine co_seq ?_
   refine co_seq ?_
   refine co_reg ?_
   refine pk0 (v := .slice (some ad) l.length cap) h5 rfl fun a6 h6 => ?_; clear h5
   refine pk0 (v := .bool false) h6 rfl fun a7 h7 => ?_; clear h6
   refine pl_nil ?_
   refine co_then ?_
   refine co_false h7 rfl ?_
   refine wp_skip ?_
   refine co_then ?_
   refine co_seq ?_
   refine co_reg ?_
   refine pw h7 rfl (op_new (v := fun N => .slice (some ⟨N, 0, none⟩) 0 0) (T := 201) (cs := #[]) (by kernel_rfl) (by kernel_rfl) (by kernel_rfl)) ?_; clear h7
   rintro _ w9 a8 ⟨N10, rfl, hN13, hz14, hk12, hg11⟩ h8
   have hz15 := hg11.size
   try dsimp only at h8
   refine pk0 (v := .slice (some ad) l.length cap) h8 rfl fun a16 h16 => ?_; clear h8
   have hr19 := row_of_blkL hk12 (Nat.le_refl _) 3 opE
   have hB24 := hb_new hB0 hg11
   refine pw h16 rfl (op_appendSrc rfl N10 201 (z := .agg #[.string (⟨#[]⟩), .string (⟨#[]⟩), .bool false]) (size := 3) (bytes := 40) Try.underlying34 (by kernel_rfl) rfl rfl rfl hr19 rfl (hs.below hB24) (fun y hy => ⟨opE_len y, opE_one y⟩) (by first | omega | (simp only [List.length_nil, List.length_append, List.length_cons, List.length_take, List.length_drop]; omega)) (by first | omega | (simp only [List.length_nil, List.length_append, List.length_cons, List.length_take, List.length_drop]; omega)) (by omega)) ?_; clear h16
   rintro v20 w18 a17 ⟨hr21, hg22⟩ h17
   have hr21' : w18.ownsRow N10 201 3 v20 l.length (l.flatMap opE) := row_app (l := []) hr21; clear hr21
   have hz25 := hg22.size
   refine pk0 (v := v20) h17 rfl fun a26 h26 => ?_; clear h17
   refine pl_nil ?_
   refine co_then ?_
   refine wp_ret ?_
   refine co_ret1 h26 rfl rfl ?_
   have hB27 := hb_row hB24 hr19 (by omega) hg22
   exact ⟨_, rfl, (row_lows hr21' (by omega)), hB27⟩
set_option maxRecDepth 100000 in
theorem freshBatchH_any (c : Int) (r : Int) (v : Value) (l : List OpT) (w : World) (hs : SliceOf opE 3 w v l) (hlen : l.length ≤ 100) :
    Calls Try.prog 132 #[.agg #[.int .i64 c, .int .i64 r, v]] w fun e w' => ∃ (u : Value), e = .returned (.agg #[.int .i64 c, .int .i64 r, u]) ∧ w'.ownsRow w.heap.size 201 3 u l.length (l.flatMap opE) ∧ Below w.heap.size w w' := by
 have hB0 := Below.refl w.heap.size w
 have hl_hs := sl_len hs
 refine co_enter (n := 8) Try.func132 rfl rfl rfl [(0, .agg #[.int .i64 c, .int .i64 r, v])] rfl (fun a h0 => ?_)
 refine co_seq ?_
 refine co_reg ?_
 refine pw h0 rfl (op_new (v := fun N => pt N 0) (T := 36) (cs := #[.int .i64 c, .int .i64 r, v]) (by kernel_rfl) (by kernel_rfl) (by kernel_rfl)) ?_; clear h0
 rintro _ w2 a1 ⟨N3, rfl, hN6, hz7, hk5, hg4⟩ h1
 have hz8 := hg4.size
 try dsimp only at h1
 refine pw h1 rfl (op_new (v := fun N => pt N 0) (T := 36) (cs := #[.int .i64 0, .int .i64 0, .slice none 0 0]) (by kernel_rfl) (by kernel_rfl) (by kernel_rfl)) ?_; clear h1
 rintro _ w10 a9 ⟨N11, rfl, hN14, hz15, hk13, hg12⟩ h9
 have hz16 := hg12.size
 try dsimp only at h9
 refine pl_nil ?_
 refine co_then ?_
 refine co_seq ?_
 refine co_reg ?_
 refine pk0 (v := pt N3 2) h9 rfl fun a17 h17 => ?_; clear h9
 have hk18 := hk5.kept hg12 (by simp)
 refine pk (v := v) h17 rfl (rn_load1 rfl rfl Try.isAgg34 (hk18.cell rfl)) fun a19 h19 => ?_; clear h17
 have hB22 := hb_new hB0 hg4
 have hB23 := hb_new hB22 hg12
 refine pw h19 rfl (op_call (args := #[v]) (R := fun res xw => ∃ u : Value, res = u ∧ xw.ownsRow w10.heap.size 201 3 u l.length (l.flatMap opE) ∧ Below w10.heap.size w10 xw) rfl rfl rfl (by kernel_rfl) (by kernel_rfl) (Try.call154 _ _) (cloneH_any v l w10 (hs.below hB23) (by first | omega | (simp; done) | (simp; omega))) (by rintro e x ⟨u, rfl, hq25, hb26⟩; exact ⟨_, rfl, ⟨u, rfl, hq25, hb26⟩⟩)) ?_; clear h19
 rintro u24 w21 a20 ⟨_, rfl, hq25, hb26⟩ h20
 have hz27 := hb26.size
 have hl28 := sl_len (row_sl hq25 opE_len)
 refine pk0 (v := pt N3 2) h20 rfl fun a29 h29 => ?_; clear h20
 have hk35 := hk18.below hb26
 refine pwD h29 rfl (op_store1 rfl rfl rfl (row_one hq25) Try.sizeOf34 hk35 rfl) ?_; clear h29
 rintro _ w31 a30 ⟨hk32, hz33, hg34⟩ h30
 have hk32' : Blk w31 N3 36 #[.int .i64 c, .int .i64 r, u24] := hk32; clear hk32
 have hz36 := hg34.size
 refine pl_nil ?_
 refine co_then ?_
 refine co_seq ?_
 refine co_reg ?_
 refine pk (v := .agg #[.int .i64 c, .int .i64 r, u24]) h30 rfl (rn_loadN rfl rfl Try.underlying36 rfl (by kernel_rfl) hk32'.all) fun a37 h37 => ?_; clear h30
 have hr43 := row_kept_at hq25 hg34 (row_ne_lt hq25 (by omega))
 have hk44 := hk13.below hb26
 have hk45 := hk44.kept hg34 (by simp; omega)
 refine pwD h37 rfl (op_storeN rfl rfl rfl (all_cons rfl (all_cons rfl (all_cons (row_one hr43) all_nil))) (by kernel_rfl) hk45 rfl) ?_; clear h37
 rintro _ w39 a38 ⟨hk40, hz41, hg42⟩ h38
 have hk40' : Blk w39 N11 36 #[.int .i64 c, .int .i64 r, u24] := hk40; clear hk40
 have hz46 := hg42.size
 refine pl_nil ?_
 refine co_then ?_
 refine wp_ret ?_
 refine co_retC (Q := fun _ _ _ => True) h38 rfl rfl hk40' Try.underlying36 rfl (by kernel_rfl) ?_
 have hr47 := row_kept_at hr43 hg42 (row_ne_lt hr43 (by omega))
 have hB48 := hb_call hB23 hb26
 have hB49 := hb_at hB48 hg34 (by omega)
 have hB50 := hb_at hB49 hg42 (by omega)
 exact ⟨_, rfl, (row_lows hr47 (by omega)), hB50⟩
set_option maxRecDepth 100000 in
theorem freshEntryH_any (c : Int) (r : Int) (v : Value) (l : List OpT) (ts : Int) (w : World) (hs : SliceOf opE 3 w v l) (hlen : l.length ≤ 100) :
    Calls Try.prog 88 #[.agg #[.int .i64 c, .int .i64 r, v, .int .u64 ts]] w fun e w' => ∃ (u : Value), e = .returned (.agg #[.int .i64 c, .int .i64 r, u, .int .u64 ts]) ∧ w'.ownsRow w.heap.size 201 3 u l.length (l.flatMap opE) ∧ Below w.heap.size w w' := by
 have hB0 := Below.refl w.heap.size w
 have hl_hs := sl_len hs
 refine co_enter (n := 8) Try.func88 rfl rfl rfl [(0, .agg #[.int .i64 c, .int .i64 r, v, .int .u64 ts])] rfl (fun a h0 => ?_)
 refine co_seq ?_
 refine co_reg ?_
 refine pw h0 rfl (op_new (v := fun N => pt N 0) (T := 38) (cs := #[.int .i64 c, .int .i64 r, v, .int .u64 ts]) (by kernel_rfl) (by kernel_rfl) (by kernel_rfl)) ?_; clear h0
 rintro _ w2 a1 ⟨N3, rfl, hN6, hz7, hk5, hg4⟩ h1
 have hz8 := hg4.size
 try dsimp only at h1
 refine pw h1 rfl (op_new (v := fun N => pt N 0) (T := 38) (cs := #[.int .i64 0, .int .i64 0, .slice none 0 0, .int .u64 0]) (by kernel_rfl) (by kernel_rfl) (by kernel_rfl)) ?_; clear h1
 rintro _ w10 a9 ⟨N11, rfl, hN14, hz15, hk13, hg12⟩ h9
 have hz16 := hg12.size
 try dsimp only at h9
 refine pl_nil ?_
 refine co_then ?_
 refine co_seq ?_
 refine co_reg ?_
 refine pk0 (v := pt N3 0) h9 rfl fun a17 h17 => ?_; clear h9
 have hk18 := hk5.kept hg12 (by simp)
 refine pk (v := .agg #[.int .i64 c, .int .i64 r, v]) h17 rfl (rn_loadN rfl rfl Try.underlying36 rfl (by kernel_rfl) (blk_part hk18 0 (by rfl))) fun a19 h19 => ?_; clear h17
 have hB22 := hb_new hB0 hg4
 have hB23 := hb_new hB22 hg12
 refine pw h19 rfl (op_call (args := #[.agg #[.int .i64 c, .int .i64 r, v]]) (R := fun res xw => ∃ u : Value, res = .agg #[.int .i64 c, .int .i64 r, u] ∧ xw.ownsRow w10.heap.size 201 3 u l.length (l.flatMap opE) ∧ Below w10.heap.size w10 xw) rfl rfl rfl (by kernel_rfl) (by kernel_rfl) (Try.call132 _ _) (freshBatchH_any c r v l w10 (hs.below hB23) (by first | omega | (simp; done) | (simp; omega))) (by rintro e x ⟨u, rfl, hq25, hb26⟩; exact ⟨_, rfl, ⟨u, rfl, hq25, hb26⟩⟩)) ?_; clear h19
 rintro _ w21 a20 ⟨u24, rfl, hq25, hb26⟩ h20
 have hz27 := hb26.size
 have hl28 := sl_len (row_sl hq25 opE_len)
 refine pk0 (v := pt N3 0) h20 rfl fun a29 h29 => ?_; clear h20
 have hk35 := hk18.below hb26
 refine pwD h29 rfl (op_storePart (k := 0) (cs' := #[.int .i64 c, .int .i64 r, u24, .int .u64 ts]) rfl rfl rfl (all_cons rfl (all_cons rfl (all_cons (row_one hq25) all_nil))) (by kernel_rfl) hk35 rfl rfl) ?_; clear h29
 rintro _ w31 a30 ⟨hk32, hz33, hg34⟩ h30
 have hk32' : Blk w31 N3 38 #[.int .i64 c, .int .i64 r, u24, .int .u64 ts] := hk32; clear hk32
 have hz36 := hg34.size
 refine pl_nil ?_
 refine co_then ?_
 refine co_seq ?_
 refine co_reg ?_
 refine pk (v := .agg #[.int .i64 c, .int .i64 r, u24, .int .u64 ts]) h30 rfl (rn_loadN rfl rfl Try.underlying38 rfl (by kernel_rfl) hk32'.all) fun a37 h37 => ?_; clear h30
 have hr43 := row_kept_at hq25 hg34 (row_ne_lt hq25 (by omega))
 have hk44 := hk13.below hb26
 have hk45 := hk44.kept hg34 (by simp; omega)
 refine pwD h37 rfl (op_storeN rfl rfl rfl (all_cons rfl (all_cons rfl (all_cons (row_one hr43) (all_cons rfl all_nil)))) (by kernel_rfl) hk45 rfl) ?_; clear h37
 rintro _ w39 a38 ⟨hk40, hz41, hg42⟩ h38
 have hk40' : Blk w39 N11 38 #[.int .i64 c, .int .i64 r, u24, .int .u64 ts] := hk40; clear hk40
 have hz46 := hg42.size
 refine pl_nil ?_
 refine co_then ?_
 refine wp_ret ?_
 refine co_retC (Q := fun _ _ _ => True) h38 rfl rfl hk40' Try.underlying38 rfl (by kernel_rfl) ?_
 have hr47 := row_kept_at hr43 hg42 (row_ne_lt hr43 (by omega))
 have hB48 := hb_call hB23 hb26
 have hB49 := hb_at hB48 hg34 (by omega)
 have hB50 := hb_at hB49 hg42 (by omega)
 exact ⟨_, rfl, (row_lows hr47 (by omega)), hB50⟩
set_option maxRecDepth 100000 in
theorem freshEntriesH_any (v : Value) (l : List EntT) (w : World) (hs : SliceOf entE 4 w v l) (hok : ∀ z ∈ l, EntOk w z) (hl20 : ∀ z ∈ l, z.opl.length ≤ 100) (hlen : l.length ≤ 100) :
    Calls Try.prog 121 #[v] w fun e w' => ∃ (L2 : List EntT) (u : Value), e = .returned (u) ∧ w'.ownsRow w.heap.size 38 4 u L2.length (L2.flatMap entE) ∧ EntsH (fun _ => False) w.heap.size w' L2 ∧ L2.map e0 = l.map e0 ∧ Below w.heap.size w w' := by
 have hB0 := Below.refl w.heap.size w
 have hl_hs := sl_len hs
 refine co_enter (n := 22) Try.func121 rfl rfl rfl [(0, v)] rfl (fun a h0 => ?_)
 refine co_seq ?_
 refine co_reg ?_
 refine pk0 (v := .slice none 0 0) h0 rfl fun a1 h1 => ?_; clear h0
 refine pl_nil ?_
 refine co_then ?_
 refine co_seq ?_
 refine co_reg ?_
 refine pk0 (v := v) h1 rfl fun a2 h2 => ?_; clear h1
 refine pk (v := .int .i64 ((l.length : Nat) : Int)) h2 rfl (rn_len rfl rfl Try.underlying69 hs) fun a3 h3 => ?_; clear h2
 refine pw h3 rfl (op_makeOwn (base := w.heap.size) (enc := entE) (k := l.length) (by_ := 48) (z := .agg #[.int .i64 0, .int .i64 0, .slice none 0 0, .int .u64 0]) (size := 4) rfl rfl rfl Try.underlying69 (by kernel_rfl) (by omega) (by unfold maxLen; omega) (Nat.le_refl _)) ?_; clear h3
 rintro _ w5 a4 ⟨N6, rfl, hN7, hr8, hg9⟩ h4
 have hz10 := hg9.size
 refine pk0 (v := .slice (some ⟨N6, 0, none⟩) 0 l.length) h4 rfl fun a11 h11 => ?_; clear h4
 refine pl_nil ?_
 refine co_then ?_
 refine co_seq ?_
 refine co_seq ?_
 refine co_reg ?_
 refine pk0 (v := v) h11 rfl fun a12 h12 => ?_; clear h11
 have hB13 := hb_new hB0 hg9
 refine pk (v := .int .i64 ((l.length : Nat) : Int)) h12 rfl (rn_len rfl rfl Try.underlying69 (hs.below hB13)) fun a14 h14 => ?_; clear h12
 refine pk0 (v := .int .i64 0) h14 rfl fun a15 h15 => ?_; clear h14
 refine pl_nil ?_
 refine co_then ?_
 refine wp_block ?_
 have h16 : Slots 22 [(3, .slice (some ⟨N6, 0, none⟩) 0 l.length), (9, v), (10, .int .i64 ((l.length : Nat) : Int)), (11, .int .i64 0)] _ := h15.sub ⟨rfl, rfl, rfl, rfl, trivial⟩; clear h15
 refine co_loop (fun mm a x => ∃ (k : Nat) (u1 : Value) (Lk : List EntT), Slots 22 [(3, u1), (9, v), (10, .int .i64 ((l.length : Nat) : Int)), (11, .int .i64 ((k : Nat) : Int))] a ∧ mm = l.length - k ∧ (k ≤ l.length) ∧ (Lk.map e0 = (l.take k).map e0) ∧ x.ownsRow w.heap.size 38 4 u1 Lk.length (Lk.flatMap entE) ∧ EntsH (fun _ => False) w.heap.size x Lk ∧ Below w.heap.size w x) (l.length - 0) ?_ ?_
 · exact ⟨0, (.slice (some ⟨N6, 0, none⟩) 0 l.length), [], h16.sub ⟨rfl, rfl, rfl, (slot_eq rfl (congrArg (Value.int .i64) (by first | rfl | omega))), trivial⟩, rfl, by omega, by first | rfl | exact he0, (row_eq hr8 (rfl)), (fun e he => by cases he), hB13⟩
 · rintro k17 a18 w19 ⟨k, u1, Lk, h18, rfl, hi20, hi21, hf22, hf23, hB24⟩
   have hz25 := hB24.size
   have hLkl : Lk.length = k := by have hq := congrArg List.length (by assumption : Lk.map e0 = (l.take k).map e0); rw [List.length_map, List.length_map, List.length_take] at hq; omega
   refine co_seq ?_
   refine co_reg ?_
   refine pk0 (v := .bool (decide (((k : Nat) : Int) < ((l.length : Nat) : Int)))) h18 rfl fun a26 h26 => ?_; clear h18
   refine pl_nil ?_
   refine co_then ?_
   refine co_seq ?_
   cases hc27 : (decide (((k : Nat) : Int) < ((l.length : Nat) : Int)))
   ·
    rw [hc27] at h26
    have hp28 : ¬ (((k : Nat) : Int) < ((l.length : Nat) : Int)) := of_decide_eq_false hc27
    clear hc27
    refine co_false h26 rfl ?_
    refine wp_exit ?_
    refine co_thenX ?_
    refine co_thenX ?_
    refine co_blockX ?_
    refine co_then ?_
    refine co_seq ?_
    refine co_reg ?_
    refine pk0 (v := u1) h26 rfl fun a29 h29 => ?_; clear h26
    refine pk0 (v := u1) h29 rfl fun a30 h30 => ?_; clear h29
    refine pl_nil ?_
    refine co_then ?_
    refine wp_ret ?_
    refine co_ret1 h30 rfl rfl ?_
    exact ⟨_, _, rfl, (row_lows hf22 (by omega)), hf23, by have hq := (by assumption : Lk.map e0 = (l.take k).map e0); rwa [List.take_of_length_le (by omega)] at hq, hB24⟩
   ·
    rw [hc27] at h26
    have hp31 : ((k : Nat) : Int) < ((l.length : Nat) : Int) := of_decide_eq_true hc27
    clear hc27
    refine co_true h26 rfl ?_
    refine wp_skip ?_
    refine co_then ?_
    refine co_seq ?_
    refine wp_block ?_
    refine co_seq ?_
    refine co_reg ?_
    obtain ⟨y32, hy32⟩ : ∃ z, l[k]? = some z := ⟨_, List.getElem?_eq_getElem (by first | omega | (simp; done) | (simp; omega))⟩
    have oky32 := hok _ (List.mem_of_getElem? hy32)
    have k33 : 0 ≤ y32.ts := oky32.ts0
    have k34 : y32.ts < 18446744073709551616 := oky32.ts1
    have h20y32 := hl20 y32 (List.mem_of_getElem? hy32)
    refine pk (v := pt (blkOf v) (offOf v + k * 4)) h26 rfl (rn_index rfl rfl rfl Try.underlying69 Try.sizeOf38 (hs.below hB24) (by omega) (by first | omega | (simp; done) | (simp; omega))) fun a35 h35 => ?_; clear h26
    refine pk (v := .agg #[.int .i64 y32.client, .int .i64 y32.req, y32.ops, .int .u64 y32.ts]) h35 rfl (rn_loadN rfl rfl Try.underlying38 rfl (by kernel_rfl) (sl_at (hs.below hB24) hy32)) fun a36 h36 => ?_; clear h35
    refine pw h36 rfl (op_new (v := fun N => pt N 0) (T := 38) (cs := #[.int .i64 0, .int .i64 0, .slice none 0 0, .int .u64 0]) (by kernel_rfl) (by kernel_rfl) (by kernel_rfl)) ?_; clear h36
    rintro _ w38 a37 ⟨N39, rfl, hN42, hz43, hk41, hg40⟩ h37
    have ha44 := row_fresh hf22 hN42
    have hz45 := hg40.size
    try dsimp only at h37
    have hB51 := hb_new hB24 hg40
    refine pwD h37 rfl (op_storeN rfl rfl rfl (all_cons rfl (all_cons rfl (all_cons (sl_one (oky32.ops.below hB51)) (all_cons rfl all_nil)))) (by kernel_rfl) hk41 rfl) ?_; clear h37
    rintro _ w47 a46 ⟨hk48, hz49, hg50⟩ h46
    have hk48' : Blk w47 N39 38 #[.int .i64 y32.client, .int .i64 y32.req, y32.ops, .int .u64 y32.ts] := hk48; clear hk48
    have hz52 := hg50.size
    refine pl_nil ?_
    refine co_then ?_
    refine co_reg ?_
    refine pk0 (v := u1) h46 rfl fun a53 h53 => ?_; clear h46
    refine pk (v := .agg #[.int .i64 y32.client, .int .i64 y32.req, y32.ops, .int .u64 y32.ts]) h53 rfl (rn_loadN rfl rfl Try.underlying38 rfl (by kernel_rfl) hk48'.all) fun a54 h54 => ?_; clear h53
    have hB57 := hb_at hB51 hg50 (by omega)
    refine pw h54 rfl (op_call (args := #[.agg #[.int .i64 y32.client, .int .i64 y32.req, y32.ops, .int .u64 y32.ts]]) (R := fun res xw => ∃ u : Value, res = .agg #[.int .i64 y32.client, .int .i64 y32.req, u, .int .u64 y32.ts] ∧ xw.ownsRow w47.heap.size 201 3 u y32.opl.length (y32.opl.flatMap opE) ∧ Below w47.heap.size w47 xw) rfl rfl rfl (by kernel_rfl) (by kernel_rfl) (Try.call88 _ _) (freshEntryH_any y32.client y32.req y32.ops y32.opl y32.ts w47 (oky32.ops.below hB57) (by first | omega | (simp; done) | (simp; omega))) (by rintro e x ⟨u, rfl, hq59, hb60⟩; exact ⟨_, rfl, ⟨u, rfl, hq59, hb60⟩⟩)) ?_; clear h54
    rintro _ w56 a55 ⟨u58, rfl, hq59, hb60⟩ h55
    have hz61 := hb60.size
    have hl62 := sl_len (row_sl hq59 opE_len)
    refine pw h55 rfl (op_new (v := fun N => .slice (some ⟨N, 0, none⟩) 1 1) (T := 38) (cs := #[.int .i64 y32.client, .int .i64 y32.req, u58, .int .u64 y32.ts]) (by kernel_rfl) (by kernel_rfl) (by kernel_rfl)) ?_; clear h55
    rintro _ w64 a63 ⟨N65, rfl, hN68, hz69, hk67, hg66⟩ h63
    have hr71 := row_kept_new hf22 hg40
    have hr72 := row_kept_at hr71 hg50 (ha44)
    have hr73 := row_kept_new hr72 (below_grown hb60)
    have ha70 := row_fresh hr73 hN68
    have ha74 := row_fresh hq59 hN68
    have hz75 := hg66.size
    try dsimp only at h63
    have hr82 := row_kept_new hr73 hg66
    have hr83 := row_kept_new hq59 hg66
    refine pw h63 rfl (op_append rfl w.heap.size 38 (z := .agg #[.int .i64 0, .int .i64 0, .slice none 0 0, .int .u64 0]) (size := 4) (bytes := 48) Try.underlying69 (by kernel_rfl) rfl rfl rfl hr82 rfl hk67 rfl (all_cons rfl (all_cons rfl (all_cons (row_one hr83) (all_cons rfl all_nil)))) (by first | omega | (simp only [List.length_nil, List.length_append, List.length_cons, List.length_take, List.length_drop]; omega)) (by first | omega | (simp only [List.length_nil, List.length_append, List.length_cons, List.length_take, List.length_drop]; omega)) (by omega)) ?_; clear h63
    rintro v78 w77 a76 ⟨hr79, hg80⟩ h76
    have hr79' : w77.ownsRow w.heap.size 38 4 v78 ((Lk ++ [(EntT.mk y32.client y32.req u58 y32.opl y32.ts)]).length) ((Lk ++ [(EntT.mk y32.client y32.req u58 y32.opl y32.ts)]).flatMap entE) := row_push (y := (EntT.mk y32.client y32.req u58 y32.opl y32.ts)) hr79 rfl rfl; clear hr79
    have hz84 := hg80.size
    refine pk0 (v := v78) h76 rfl fun a85 h85 => ?_; clear h76
    refine pl_nil ?_
    refine co_blockN ?_
    refine co_then ?_
    refine co_reg ?_
    refine pk (v := .int .i64 ((k + 1 : Nat) : Int)) h85 rfl (rn_arith' rfl rfl rfl rfl rfl rfl (IntWalk.i64_in _ (by omega)) (by omega)) fun a86 h86 => ?_; clear h85
    refine pk0 (v := .int .i64 ((k + 1 : Nat) : Int)) h86 rfl fun a87 h87 => ?_; clear h86
    refine pl_nil ?_
    refine co_then ?_
    refine ⟨(l.length - (k + 1)), by omega, ?_⟩
    have he0 := e0_snoc (by assumption : Lk.map e0 = _) hy32 (z := (EntT.mk y32.client y32.req u58 y32.opl y32.ts)) rfl
    have hE88 := hf23.new hg40
    have hE89 := hE88.blk hk41 (by decide) hg50
    have hE90 := hE89.new (below_grown hb60)
    have hE91 := hE90.new hg66
    have hE92 := hE91.row hr82 (by decide) hg80
    have hr93 := row_kept_row hr83 hr82 hg80 (by decide)
    have hB94 := hb_call hB57 hb60
    have hB95 := hb_new hB94 hg66
    have hB96 := hb_row hB95 hr82 (by omega) hg80
    exact ⟨k + 1, v78, (Lk ++ [(EntT.mk y32.client y32.req u58 y32.opl y32.ts)]), h87.sub ⟨rfl, rfl, rfl, rfl, trivial⟩, rfl, by omega, by first | rfl | exact he0, (row_eq hr79' (rfl)), (EntsH.snoc hE92 (e := EntT.mk y32.client y32.req u58 y32.opl y32.ts) ⟨row_lows hr93 (Nat.zero_le _), InS.low hr93 (by omega), by omega, oky32.each, oky32.ts0, oky32.ts1, oky32.cl, oky32.rq⟩), hB96⟩
end Go.Proofs.Ytlbemlodcdgakaa

/- Package relay: between, options. Conditions: none. -/
namespace Go.Proofs.Ytlbemlodcdgakaa
open Go.RowKit Go.PlainAid
set_option linter.unusedVariables false
set_option linter.unusedSimpArgs false


/-- A number from 0 to so many. -/
def bwI (n m : Int) : Int := mxI (mnI n m) 0
theorem bwI_p (n : Int) (m : Nat) : 0 ≤ bwI n (m : Int) ∧ bwI n (m : Int) ≤ m := by
  unfold bwI; have h1 := mxI_p (mnI n m) 0; have h2 := mnI_p n m; omega

set_option maxRecDepth 100000 in
theorem between_any (n : Int) (m : Nat) (w : World)  :
    Calls Try.prog 67 #[.int .i64 n, .int .i64 ((m : Nat) : Int)] w fun e w' => e = .returned (.int .i64 (bwI n ((m : Nat) : Int))) ∧ Below w.heap.size w w' := by
 have hB0 := Below.refl w.heap.size w
 refine co_enter (n := 9) Try.func67 rfl rfl rfl [(0, .int .i64 n), (1, .int .i64 ((m : Nat) : Int))] rfl (fun a h0 => ?_)
 refine co_seq ?_
 refine co_reg ?_
 refine pk0 (v := .int .i64 0) h0 rfl fun a1 h1 => ?_; clear h0
 refine pl_nil ?_
 refine co_then ?_
 refine co_seq ?_
 refine co_reg ?_
 refine pk0 (v := .int .i64 n) h1 rfl fun a2 h2 => ?_; clear h1
 refine pk0 (v := .int .i64 ((m : Nat) : Int)) h2 rfl fun a3 h3 => ?_; clear h2
 have hmm4 := mnI_p n ((m : Nat) : Int)
 refine pk0 (v := .int .i64 (mnI n ((m : Nat) : Int))) h3 rfl fun a5 h5 => ?_; clear h3
 have hmm6 := mxI_p (mnI n ((m : Nat) : Int)) 0
 refine pk0 (v := .int .i64 (mxI (mnI n ((m : Nat) : Int)) 0)) h5 rfl fun a7 h7 => ?_; clear h5
 refine pk0 (v := .int .i64 (mxI (mnI n ((m : Nat) : Int)) 0)) h7 rfl fun a8 h8 => ?_; clear h7
 refine pl_nil ?_
 refine co_then ?_
 refine wp_ret ?_
 refine co_ret1 h8 rfl rfl ?_
 exact ⟨rfl, hB0⟩
set_option maxRecDepth 100000 in
theorem numbers_any (ep : Int) (n : Int) (m : Int) (p : Int) (w : World)  :
    Calls Try.prog 69 #[.int .i64 ep, .int .i64 n, .int .i64 m, .int .i64 p] w fun e w' => ∃ (N0 : Nat) (N1 : Nat) (N2 : Nat) (N3 : Nat), e = .returned (.func (.func 118) #[] #[pt N0 0, pt N1 0, pt N2 0, pt N3 0]) ∧ Blk w' N0 3 #[.int .i64 ep] ∧ w.heap.size ≤ N0 ∧ Blk w' N1 3 #[.int .i64 n] ∧ w.heap.size ≤ N1 ∧ Blk w' N2 3 #[.int .i64 m] ∧ w.heap.size ≤ N2 ∧ Blk w' N3 3 #[.int .i64 p] ∧ w.heap.size ≤ N3 ∧ Below w.heap.size w w' := by
 have hB0 := Below.refl w.heap.size w
 refine co_enter (n := 10) Try.func69 rfl rfl rfl [(0, .int .i64 ep), (1, .int .i64 n), (2, .int .i64 m), (3, .int .i64 p)] rfl (fun a h0 => ?_)
 refine co_seq ?_
 refine co_reg ?_
 refine pw h0 rfl (op_new (v := fun N => pt N 0) (T := 3) (cs := #[.int .i64 ep]) (by kernel_rfl) (by kernel_rfl) (by kernel_rfl)) ?_; clear h0
 rintro _ w2 a1 ⟨N3, rfl, hN6, hz7, hk5, hg4⟩ h1
 have hz8 := hg4.size
 try dsimp only at h1
 refine pw h1 rfl (op_new (v := fun N => pt N 0) (T := 3) (cs := #[.int .i64 n]) (by kernel_rfl) (by kernel_rfl) (by kernel_rfl)) ?_; clear h1
 rintro _ w10 a9 ⟨N11, rfl, hN14, hz15, hk13, hg12⟩ h9
 have hz16 := hg12.size
 try dsimp only at h9
 refine pw h9 rfl (op_new (v := fun N => pt N 0) (T := 3) (cs := #[.int .i64 m]) (by kernel_rfl) (by kernel_rfl) (by kernel_rfl)) ?_; clear h9
 rintro _ w18 a17 ⟨N19, rfl, hN22, hz23, hk21, hg20⟩ h17
 have hz24 := hg20.size
 try dsimp only at h17
 refine pw h17 rfl (op_new (v := fun N => pt N 0) (T := 3) (cs := #[.int .i64 p]) (by kernel_rfl) (by kernel_rfl) (by kernel_rfl)) ?_; clear h17
 rintro _ w26 a25 ⟨N27, rfl, hN30, hz31, hk29, hg28⟩ h25
 have hz32 := hg28.size
 try dsimp only at h25
 refine pk0 (v := .nilFunc) h25 rfl fun a33 h33 => ?_; clear h25
 refine pl_nil ?_
 refine co_then ?_
 refine co_seq ?_
 refine co_reg ?_
 refine pk0 (v := .func (.func 118) #[] #[pt N3 0, pt N11 0, pt N19 0, pt N27 0]) h33 rfl fun a34 h34 => ?_; clear h33
 refine pk0 (v := .func (.func 118) #[] #[pt N3 0, pt N11 0, pt N19 0, pt N27 0]) h34 rfl fun a35 h35 => ?_; clear h34
 refine pl_nil ?_
 refine co_then ?_
 refine wp_ret ?_
 refine co_ret1 h35 rfl rfl ?_
 have hk36 := hk5.kept hg12 (by simp)
 have hk37 := hk36.kept hg20 (by simp)
 have hk38 := hk37.kept hg28 (by simp)
 have hk39 := hk13.kept hg20 (by simp)
 have hk40 := hk39.kept hg28 (by simp)
 have hk41 := hk21.kept hg28 (by simp)
 have hB42 := hb_new hB0 hg4
 have hB43 := hb_new hB42 hg12
 have hB44 := hb_new hB43 hg20
 have hB45 := hb_new hB44 hg28
 exact ⟨_, _, _, _, rfl, hk38, by omega, hk40, by omega, hk41, by omega, hk29, by omega, hB45⟩
set_option maxRecDepth 100000 in
theorem stand_any (sb : Int) (hz : Int) (w : World)  :
    Calls Try.prog 71 #[.int .i64 sb, .int .u64 hz] w fun e w' => ∃ (N0 : Nat) (N1 : Nat), e = .returned (.func (.func 119) #[] #[pt N0 0, pt N1 0]) ∧ Blk w' N0 3 #[.int .i64 sb] ∧ w.heap.size ≤ N0 ∧ Blk w' N1 29 #[.int .u64 hz] ∧ w.heap.size ≤ N1 ∧ Below w.heap.size w w' := by
 have hB0 := Below.refl w.heap.size w
 refine co_enter (n := 6) Try.func71 rfl rfl rfl [(0, .int .i64 sb), (1, .int .u64 hz)] rfl (fun a h0 => ?_)
 refine co_seq ?_
 refine co_reg ?_
 refine pw h0 rfl (op_new (v := fun N => pt N 0) (T := 3) (cs := #[.int .i64 sb]) (by kernel_rfl) (by kernel_rfl) (by kernel_rfl)) ?_; clear h0
 rintro _ w2 a1 ⟨N3, rfl, hN6, hz7, hk5, hg4⟩ h1
 have hz8 := hg4.size
 try dsimp only at h1
 refine pw h1 rfl (op_new (v := fun N => pt N 0) (T := 29) (cs := #[.int .u64 hz]) (by kernel_rfl) (by kernel_rfl) (by kernel_rfl)) ?_; clear h1
 rintro _ w10 a9 ⟨N11, rfl, hN14, hz15, hk13, hg12⟩ h9
 have hz16 := hg12.size
 try dsimp only at h9
 refine pk0 (v := .nilFunc) h9 rfl fun a17 h17 => ?_; clear h9
 refine pl_nil ?_
 refine co_then ?_
 refine co_seq ?_
 refine co_reg ?_
 refine pk0 (v := .func (.func 119) #[] #[pt N3 0, pt N11 0]) h17 rfl fun a18 h18 => ?_; clear h17
 refine pk0 (v := .func (.func 119) #[] #[pt N3 0, pt N11 0]) h18 rfl fun a19 h19 => ?_; clear h18
 refine pl_nil ?_
 refine co_then ?_
 refine wp_ret ?_
 refine co_ret1 h19 rfl rfl ?_
 have hk20 := hk5.kept hg12 (by simp)
 have hB21 := hb_new hB0 hg4
 have hB22 := hb_new hB21 hg12
 exact ⟨_, _, rfl, hk20, by omega, hk13, by omega, hB22⟩
set_option maxRecDepth 100000 in
theorem entriesO_any (v : Value) (l : List EntT) (w : World) (hs : SliceOf entE 4 w v l) :
    Calls Try.prog 72 #[v] w fun e w' => ∃ (N0 : Nat), e = .returned (.func (.func 120) #[] #[pt N0 0]) ∧ Blk w' N0 69 #[v] ∧ w.heap.size ≤ N0 ∧ Below w.heap.size w w' := by
 have hB0 := Below.refl w.heap.size w
 have hl_hs := sl_len hs
 refine co_enter (n := 4) Try.func72 rfl rfl rfl [(0, v)] rfl (fun a h0 => ?_)
 refine co_seq ?_
 refine co_reg ?_
 refine pw h0 rfl (op_new (v := fun N => pt N 0) (T := 69) (cs := #[v]) (by kernel_rfl) (by kernel_rfl) (box_run rfl rfl (sl_one hs))) ?_; clear h0
 rintro _ w2 a1 ⟨N3, rfl, hN6, hz7, hk5, hg4⟩ h1
 have hz8 := hg4.size
 try dsimp only at h1
 refine pk0 (v := .nilFunc) h1 rfl fun a9 h9 => ?_; clear h1
 refine pl_nil ?_
 refine co_then ?_
 refine co_seq ?_
 refine co_reg ?_
 refine pk0 (v := .func (.func 120) #[] #[pt N3 0]) h9 rfl fun a10 h10 => ?_; clear h9
 refine pk0 (v := .func (.func 120) #[] #[pt N3 0]) h10 rfl fun a11 h11 => ?_; clear h10
 refine pl_nil ?_
 refine co_then ?_
 refine wp_ret ?_
 refine co_ret1 h11 rfl rfl ?_
 have hB12 := hb_new hB0 hg4
 exact ⟨_, rfl, hk5, by omega, hB12⟩
set_option maxRecDepth 100000 in
theorem stampsO_any (v : Value) (l : List EntT) (w : World) (hs : SliceOf entE 4 w v l) :
    Calls Try.prog 74 #[v] w fun e w' => ∃ (N0 : Nat), e = .returned (.func (.func 122) #[] #[pt N0 0]) ∧ Blk w' N0 69 #[v] ∧ w.heap.size ≤ N0 ∧ Below w.heap.size w w' := by
 have hB0 := Below.refl w.heap.size w
 have hl_hs := sl_len hs
 refine co_enter (n := 4) Try.func74 rfl rfl rfl [(0, v)] rfl (fun a h0 => ?_)
 refine co_seq ?_
 refine co_reg ?_
 refine pw h0 rfl (op_new (v := fun N => pt N 0) (T := 69) (cs := #[v]) (by kernel_rfl) (by kernel_rfl) (box_run rfl rfl (sl_one hs))) ?_; clear h0
 rintro _ w2 a1 ⟨N3, rfl, hN6, hz7, hk5, hg4⟩ h1
 have hz8 := hg4.size
 try dsimp only at h1
 refine pk0 (v := .nilFunc) h1 rfl fun a9 h9 => ?_; clear h1
 refine pl_nil ?_
 refine co_then ?_
 refine co_seq ?_
 refine co_reg ?_
 refine pk0 (v := .func (.func 122) #[] #[pt N3 0]) h9 rfl fun a10 h10 => ?_; clear h9
 refine pk0 (v := .func (.func 122) #[] #[pt N3 0]) h10 rfl fun a11 h11 => ?_; clear h10
 refine pl_nil ?_
 refine co_then ?_
 refine wp_ret ?_
 refine co_ret1 h11 rfl rfl ?_
 have hB12 := hb_new hB0 hg4
 exact ⟨_, rfl, hk5, by omega, hB12⟩
end Go.Proofs.Ytlbemlodcdgakaa

/- Walks that may turn some blocks that were there (S). Conditions: none. -/
namespace Go.Proofs.Ytlbemlodcdgakaa
open Go.RowKit
set_option linter.unusedVariables false

section
variable {P : Program} {n : Nat} {m : List (Nat × Value)} {w x w0 : World} {o : Oper} {N : Nat} {T : TypeId} {cs : Array Value} {S : Nat → Prop}
theorem fb_new (h : But S w0 w) (hg : w.grownBy x none) : But S w0 x := h.trans (But.of_below (grown_below hg))
theorem fb_call (h : But S w0 w) (hb : Below w.heap.size w x) : But S w0 x := h.trans (But.of_below hb)
theorem fb_at (h : But S w0 w) (hg : w.grownBy x (some N)) (hN : N < w0.heap.size → S N) : But S w0 x :=
  h.trans' (S' := fun k => some N = some k) (grown_butU hg) (fun i hi e => by cases e; exact hN hi)
theorem fb_row {B sz k : Nat} {e : TypeId} {v : Value} {xs : List Value} (h : But S w0 w) (hr : w.ownsRow B e sz v k xs) (hB : w0.heap.size ≤ B) (hg : w.grownBy x v.ownBlock) : But S w0 x :=
  h.trans' (S' := fun k => v.ownBlock = some k) (grown_butU hg) (fun i hi e => by have := (hr.lt i e).1; omega)
theorem hb_foot {S' : Nat → Prop} (h : Below w0.heap.size w0 w) (hb : But S' w x) (hs : ∀ i, i < w.heap.size → S' i → w0.heap.size ≤ i) : Below w0.heap.size w0 x := below_but h hb h.size hs
theorem Blk.but (h : Blk w N T cs) (hb : But S w x) (hn : ¬ S N) : Blk x N T cs := by
  have hl := h.lt
  unfold Blk at h ⊢
  rw [hb.block N hl hn]; exact h
end
end Go.Proofs.Ytlbemlodcdgakaa

/- Package relay: the options' closures. Conditions: up to 100 operations an entry. -/
namespace Go.Proofs.Ytlbemlodcdgakaa
open Go.RowKit Go.PlainAid
set_option linter.unusedVariables false
set_option linter.unusedSimpArgs false

set_option maxRecDepth 100000 in
theorem numbersR_any (B : Nat) (N0 : Nat) (N1 : Nat) (N2 : Nat) (N3 : Nat) (k : Int) (ep : Int) (n : Int) (m : Int) (p : Int) (w : World) (hB : Blk w B 74 #[.int .i64 k, .int .i64 0, .int .i64 0, .int .i64 0, .bool false, .int .u64 0, .int .u64 0, .int .i64 0, .int .i64 0, .int .i64 0, .int .i64 0, .string (⟨#[]⟩), .string (⟨#[]⟩), .int .i64 0, .slice none 0 0, .int .u64 0, .int .i64 0, .int .i64 0, .slice none 0 0, .slice none 0 0, .slice none 0 0, .slice none 0 0]) (hN0 : Blk w N0 3 #[.int .i64 ep]) (hN1 : Blk w N1 3 #[.int .i64 n]) (hN2 : Blk w N2 3 #[.int .i64 m]) (hN3 : Blk w N3 3 #[.int .i64 p]) (hlt : N0 < B ∧ N1 < B ∧ N2 < B ∧ N3 < B) :
    Calls Try.prog 118 #[pt B 0, pt N0 0, pt N1 0, pt N2 0, pt N3 0] w fun e w' => e = .returned (.tuple #[]) ∧ Blk w' B 74 #[.int .i64 k, .int .i64 (mxI ep 0), .int .i64 0, .int .i64 0, .bool false, .int .u64 0, .int .u64 0, .int .i64 (mxI n 0), .int .i64 (mxI m 0), .int .i64 (mxI p 0), .int .i64 0, .string (⟨#[]⟩), .string (⟨#[]⟩), .int .i64 0, .slice none 0 0, .int .u64 0, .int .i64 0, .int .i64 0, .slice none 0 0, .slice none 0 0, .slice none 0 0, .slice none 0 0] ∧ But (fun q => q = B) w w' := by
 have hB0 := But.refl (fun q => q = B) w
 have hl_hB := hB.lt
 have hl_hN0 := hN0.lt
 have hl_hN1 := hN1.lt
 have hl_hN2 := hN2.lt
 have hl_hN3 := hN3.lt
 refine co_enter (n := 26) Try.func118 rfl rfl rfl [(0, pt B 0), (1, pt N0 0), (2, pt N1 0), (3, pt N2 0), (4, pt N3 0)] rfl (fun a h0 => ?_)
 refine dr_gen (fun x => But (fun q => q = B) w x ∧ Blk x N0 3 #[.int .i64 ep] ∧ Blk x N1 3 #[.int .i64 n] ∧ Blk x N2 3 #[.int .i64 m] ∧ Blk x N3 3 #[.int .i64 p]) (by kernel_rfl) (fun w1 hg2 => ?_) (fun w1 hg2 => ?_)
 ·
  have hz3 := hg2.size
  have hB4 := fb_new hB0 hg2
  have hk5 := hN0.kept hg2 (by simp)
  have hk6 := hN1.kept hg2 (by simp)
  have hk7 := hN2.kept hg2 (by simp)
  have hk8 := hN3.kept hg2 (by simp)
  exact ⟨hB4, hk5, hk6, hk7, hk8⟩
 have hz9 := hg2.size
 have hB10 := fb_new hB0 hg2
 have hk11 := hN0.kept hg2 (by simp)
 have hk12 := hN1.kept hg2 (by simp)
 have hk13 := hN2.kept hg2 (by simp)
 have hk14 := hN3.kept hg2 (by simp)
 refine dk0 0 (v := pt B 0) h0 rfl rfl ⟨hB10, hk11, hk12, hk13, hk14⟩ fun a15 h15 => ?_; clear h0
 refine dk0 1 (v := pt B 0) h15 rfl rfl ⟨hB10, hk11, hk12, hk13, hk14⟩ fun a16 h16 => ?_; clear h15
 refine dk0 2 (v := pt B 0) h16 rfl rfl ⟨hB10, hk11, hk12, hk13, hk14⟩ fun a17 h17 => ?_; clear h16
 refine dk0 3 (v := pt B 0) h17 rfl rfl ⟨hB10, hk11, hk12, hk13, hk14⟩ fun a18 h18 => ?_; clear h17
 refine dk 4 (v := .int .i64 ep) h18 rfl rfl ⟨hB10, hk11, hk12, hk13, hk14⟩ (fun x hx => (rn_load1 rfl rfl Try.isAgg3 (hx.2.1.cell rfl))) fun a19 h19 => ?_; clear h18
 have hmm20 := mxI_p ep 0
 refine dk0 5 (v := .int .i64 (mxI ep 0)) h19 rfl rfl ⟨hB10, hk11, hk12, hk13, hk14⟩ fun a21 h21 => ?_; clear h19
 refine dk 6 (v := .int .i64 n) h21 rfl rfl ⟨hB10, hk11, hk12, hk13, hk14⟩ (fun x hx => (rn_load1 rfl rfl Try.isAgg3 (hx.2.2.1.cell rfl))) fun a22 h22 => ?_; clear h21
 have hmm23 := mxI_p n 0
 refine dk0 7 (v := .int .i64 (mxI n 0)) h22 rfl rfl ⟨hB10, hk11, hk12, hk13, hk14⟩ fun a24 h24 => ?_; clear h22
 refine dk 8 (v := .int .i64 m) h24 rfl rfl ⟨hB10, hk11, hk12, hk13, hk14⟩ (fun x hx => (rn_load1 rfl rfl Try.isAgg3 (hx.2.2.2.1.cell rfl))) fun a25 h25 => ?_; clear h24
 have hmm26 := mxI_p m 0
 refine dk0 9 (v := .int .i64 (mxI m 0)) h25 rfl rfl ⟨hB10, hk11, hk12, hk13, hk14⟩ fun a27 h27 => ?_; clear h25
 refine dk 10 (v := .int .i64 p) h27 rfl rfl ⟨hB10, hk11, hk12, hk13, hk14⟩ (fun x hx => (rn_load1 rfl rfl Try.isAgg3 (hx.2.2.2.2.cell rfl))) fun a28 h28 => ?_; clear h27
 have hmm29 := mxI_p p 0
 refine dk0 11 (v := .int .i64 (mxI p 0)) h28 rfl rfl ⟨hB10, hk11, hk12, hk13, hk14⟩ fun a30 h30 => ?_; clear h28
 refine dk0 12 (v := pt B 0) h30 rfl rfl ⟨hB10, hk11, hk12, hk13, hk14⟩ fun a31 h31 => ?_; clear h30
 refine dk0 13 (v := pt B 1) h31 rfl rfl ⟨hB10, hk11, hk12, hk13, hk14⟩ fun a32 h32 => ?_; clear h31
 have hk38 := hB.kept hg2 (by simp)
 refine d1D 14 h32 rfl rfl (op_store1 rfl rfl rfl rfl Try.sizeOf3 hk38 rfl) ?_ ?_; clear h32
 ·
  rintro _ w34 ⟨hk35, hz36, hg37⟩
  have hk35' : Blk w34 B 74 #[.int .i64 k, .int .i64 (mxI ep 0), .int .i64 0, .int .i64 0, .bool false, .int .u64 0, .int .u64 0, .int .i64 0, .int .i64 0, .int .i64 0, .int .i64 0, .string (⟨#[]⟩), .string (⟨#[]⟩), .int .i64 0, .slice none 0 0, .int .u64 0, .int .i64 0, .int .i64 0, .slice none 0 0, .slice none 0 0, .slice none 0 0, .slice none 0 0] := hk35; clear hk35
  have hz39 := hg37.size
  have hB40 := fb_at hB10 hg37 (fun hlt => by first | (exfalso; omega) | (simp; done) | simp_all)
  have hk41 := hk11.kept hg37 (by simp; omega)
  have hk42 := hk12.kept hg37 (by simp; omega)
  have hk43 := hk13.kept hg37 (by simp; omega)
  have hk44 := hk14.kept hg37 (by simp; omega)
  exact ⟨hB40, hk41, hk42, hk43, hk44⟩
 rintro _ w34 a33 ⟨hk35, hz36, hg37⟩ h33
 have hk35' : Blk w34 B 74 #[.int .i64 k, .int .i64 (mxI ep 0), .int .i64 0, .int .i64 0, .bool false, .int .u64 0, .int .u64 0, .int .i64 0, .int .i64 0, .int .i64 0, .int .i64 0, .string (⟨#[]⟩), .string (⟨#[]⟩), .int .i64 0, .slice none 0 0, .int .u64 0, .int .i64 0, .int .i64 0, .slice none 0 0, .slice none 0 0, .slice none 0 0, .slice none 0 0] := hk35; clear hk35
 have hz39 := hg37.size
 have hB40 := fb_at hB10 hg37 (fun hlt => by first | (exfalso; omega) | (simp; done) | simp_all)
 have hk41 := hk11.kept hg37 (by simp; omega)
 have hk42 := hk12.kept hg37 (by simp; omega)
 have hk43 := hk13.kept hg37 (by simp; omega)
 have hk44 := hk14.kept hg37 (by simp; omega)
 refine dk0 15 (v := pt B 0) h33 rfl rfl ⟨hB40, hk41, hk42, hk43, hk44⟩ fun a45 h45 => ?_; clear h33
 refine dk0 16 (v := pt B 7) h45 rfl rfl ⟨hB40, hk41, hk42, hk43, hk44⟩ fun a46 h46 => ?_; clear h45
 refine d1D 17 h46 rfl rfl (op_store1 rfl rfl rfl rfl Try.sizeOf3 hk35' rfl) ?_ ?_; clear h46
 ·
  rintro _ w48 ⟨hk49, hz50, hg51⟩
  have hk49' : Blk w48 B 74 #[.int .i64 k, .int .i64 (mxI ep 0), .int .i64 0, .int .i64 0, .bool false, .int .u64 0, .int .u64 0, .int .i64 (mxI n 0), .int .i64 0, .int .i64 0, .int .i64 0, .string (⟨#[]⟩), .string (⟨#[]⟩), .int .i64 0, .slice none 0 0, .int .u64 0, .int .i64 0, .int .i64 0, .slice none 0 0, .slice none 0 0, .slice none 0 0, .slice none 0 0] := hk49; clear hk49
  have hz52 := hg51.size
  have hB53 := fb_at hB40 hg51 (fun hlt => by first | (exfalso; omega) | (simp; done) | simp_all)
  have hk54 := hk41.kept hg51 (by simp; omega)
  have hk55 := hk42.kept hg51 (by simp; omega)
  have hk56 := hk43.kept hg51 (by simp; omega)
  have hk57 := hk44.kept hg51 (by simp; omega)
  exact ⟨hB53, hk54, hk55, hk56, hk57⟩
 rintro _ w48 a47 ⟨hk49, hz50, hg51⟩ h47
 have hk49' : Blk w48 B 74 #[.int .i64 k, .int .i64 (mxI ep 0), .int .i64 0, .int .i64 0, .bool false, .int .u64 0, .int .u64 0, .int .i64 (mxI n 0), .int .i64 0, .int .i64 0, .int .i64 0, .string (⟨#[]⟩), .string (⟨#[]⟩), .int .i64 0, .slice none 0 0, .int .u64 0, .int .i64 0, .int .i64 0, .slice none 0 0, .slice none 0 0, .slice none 0 0, .slice none 0 0] := hk49; clear hk49
 have hz52 := hg51.size
 have hB53 := fb_at hB40 hg51 (fun hlt => by first | (exfalso; omega) | (simp; done) | simp_all)
 have hk54 := hk41.kept hg51 (by simp; omega)
 have hk55 := hk42.kept hg51 (by simp; omega)
 have hk56 := hk43.kept hg51 (by simp; omega)
 have hk57 := hk44.kept hg51 (by simp; omega)
 refine dk0 18 (v := pt B 0) h47 rfl rfl ⟨hB53, hk54, hk55, hk56, hk57⟩ fun a58 h58 => ?_; clear h47
 refine dk0 19 (v := pt B 8) h58 rfl rfl ⟨hB53, hk54, hk55, hk56, hk57⟩ fun a59 h59 => ?_; clear h58
 refine d1D 20 h59 rfl rfl (op_store1 rfl rfl rfl rfl Try.sizeOf3 hk49' rfl) ?_ ?_; clear h59
 ·
  rintro _ w61 ⟨hk62, hz63, hg64⟩
  have hk62' : Blk w61 B 74 #[.int .i64 k, .int .i64 (mxI ep 0), .int .i64 0, .int .i64 0, .bool false, .int .u64 0, .int .u64 0, .int .i64 (mxI n 0), .int .i64 (mxI m 0), .int .i64 0, .int .i64 0, .string (⟨#[]⟩), .string (⟨#[]⟩), .int .i64 0, .slice none 0 0, .int .u64 0, .int .i64 0, .int .i64 0, .slice none 0 0, .slice none 0 0, .slice none 0 0, .slice none 0 0] := hk62; clear hk62
  have hz65 := hg64.size
  have hB66 := fb_at hB53 hg64 (fun hlt => by first | (exfalso; omega) | (simp; done) | simp_all)
  have hk67 := hk54.kept hg64 (by simp; omega)
  have hk68 := hk55.kept hg64 (by simp; omega)
  have hk69 := hk56.kept hg64 (by simp; omega)
  have hk70 := hk57.kept hg64 (by simp; omega)
  exact ⟨hB66, hk67, hk68, hk69, hk70⟩
 rintro _ w61 a60 ⟨hk62, hz63, hg64⟩ h60
 have hk62' : Blk w61 B 74 #[.int .i64 k, .int .i64 (mxI ep 0), .int .i64 0, .int .i64 0, .bool false, .int .u64 0, .int .u64 0, .int .i64 (mxI n 0), .int .i64 (mxI m 0), .int .i64 0, .int .i64 0, .string (⟨#[]⟩), .string (⟨#[]⟩), .int .i64 0, .slice none 0 0, .int .u64 0, .int .i64 0, .int .i64 0, .slice none 0 0, .slice none 0 0, .slice none 0 0, .slice none 0 0] := hk62; clear hk62
 have hz65 := hg64.size
 have hB66 := fb_at hB53 hg64 (fun hlt => by first | (exfalso; omega) | (simp; done) | simp_all)
 have hk67 := hk54.kept hg64 (by simp; omega)
 have hk68 := hk55.kept hg64 (by simp; omega)
 have hk69 := hk56.kept hg64 (by simp; omega)
 have hk70 := hk57.kept hg64 (by simp; omega)
 refine dk0 21 (v := pt B 0) h60 rfl rfl ⟨hB66, hk67, hk68, hk69, hk70⟩ fun a71 h71 => ?_; clear h60
 refine dk0 22 (v := pt B 9) h71 rfl rfl ⟨hB66, hk67, hk68, hk69, hk70⟩ fun a72 h72 => ?_; clear h71
 refine d1D 23 h72 rfl rfl (op_store1 rfl rfl rfl rfl Try.sizeOf3 hk62' rfl) ?_ ?_; clear h72
 ·
  rintro _ w74 ⟨hk75, hz76, hg77⟩
  have hk75' : Blk w74 B 74 #[.int .i64 k, .int .i64 (mxI ep 0), .int .i64 0, .int .i64 0, .bool false, .int .u64 0, .int .u64 0, .int .i64 (mxI n 0), .int .i64 (mxI m 0), .int .i64 (mxI p 0), .int .i64 0, .string (⟨#[]⟩), .string (⟨#[]⟩), .int .i64 0, .slice none 0 0, .int .u64 0, .int .i64 0, .int .i64 0, .slice none 0 0, .slice none 0 0, .slice none 0 0, .slice none 0 0] := hk75; clear hk75
  have hz78 := hg77.size
  have hB79 := fb_at hB66 hg77 (fun hlt => by first | (exfalso; omega) | (simp; done) | simp_all)
  have hk80 := hk67.kept hg77 (by simp; omega)
  have hk81 := hk68.kept hg77 (by simp; omega)
  have hk82 := hk69.kept hg77 (by simp; omega)
  have hk83 := hk70.kept hg77 (by simp; omega)
  exact ⟨hB79, hk80, hk81, hk82, hk83⟩
 rintro _ w74 a73 ⟨hk75, hz76, hg77⟩ h73
 have hk75' : Blk w74 B 74 #[.int .i64 k, .int .i64 (mxI ep 0), .int .i64 0, .int .i64 0, .bool false, .int .u64 0, .int .u64 0, .int .i64 (mxI n 0), .int .i64 (mxI m 0), .int .i64 (mxI p 0), .int .i64 0, .string (⟨#[]⟩), .string (⟨#[]⟩), .int .i64 0, .slice none 0 0, .int .u64 0, .int .i64 0, .int .i64 0, .slice none 0 0, .slice none 0 0, .slice none 0 0, .slice none 0 0] := hk75; clear hk75
 have hz78 := hg77.size
 refine dr_done (by kernel_rfl) ?_
 refine co_ret0n h73 rfl ?_
 have hB79 := fb_at hB66 hg77 (fun hlt => by first | (exfalso; omega) | (simp; done) | simp_all)
 exact ⟨rfl, hk75', hB79⟩
set_option maxRecDepth 100000 in
theorem standR_any (B : Nat) (N0 : Nat) (N1 : Nat) (k : Int) (ep : Int) (n : Int) (m : Int) (p : Int) (sb : Int) (hz : Int) (w : World) (hB : Blk w B 74 #[.int .i64 k, .int .i64 (mxI ep 0), .int .i64 0, .int .i64 0, .bool false, .int .u64 0, .int .u64 0, .int .i64 (mxI n 0), .int .i64 (mxI m 0), .int .i64 (mxI p 0), .int .i64 0, .string (⟨#[]⟩), .string (⟨#[]⟩), .int .i64 0, .slice none 0 0, .int .u64 0, .int .i64 0, .int .i64 0, .slice none 0 0, .slice none 0 0, .slice none 0 0, .slice none 0 0]) (hN0 : Blk w N0 3 #[.int .i64 sb]) (hN1 : Blk w N1 29 #[.int .u64 hz]) (hlt : N0 < B ∧ N1 < B) :
    Calls Try.prog 119 #[pt B 0, pt N0 0, pt N1 0] w fun e w' => e = .returned (.tuple #[]) ∧ Blk w' B 74 #[.int .i64 k, .int .i64 (mxI ep 0), .int .i64 (mxI sb 0), .int .i64 0, .bool false, .int .u64 hz, .int .u64 0, .int .i64 (mxI n 0), .int .i64 (mxI m 0), .int .i64 (mxI p 0), .int .i64 0, .string (⟨#[]⟩), .string (⟨#[]⟩), .int .i64 0, .slice none 0 0, .int .u64 0, .int .i64 0, .int .i64 0, .slice none 0 0, .slice none 0 0, .slice none 0 0, .slice none 0 0] ∧ But (fun q => q = B) w w' := by
 have hB0 := But.refl (fun q => q = B) w
 have hl_hB := hB.lt
 have hl_hN0 := hN0.lt
 have hl_hN1 := hN1.lt
 refine co_enter (n := 13) Try.func119 rfl rfl rfl [(0, pt B 0), (1, pt N0 0), (2, pt N1 0)] rfl (fun a h0 => ?_)
 refine dr_gen (fun x => But (fun q => q = B) w x ∧ Blk x N0 3 #[.int .i64 sb] ∧ Blk x N1 29 #[.int .u64 hz]) (by kernel_rfl) (fun w1 hg2 => ?_) (fun w1 hg2 => ?_)
 ·
  have hz3 := hg2.size
  have hB4 := fb_new hB0 hg2
  have hk5 := hN0.kept hg2 (by simp)
  have hk6 := hN1.kept hg2 (by simp)
  exact ⟨hB4, hk5, hk6⟩
 have hz7 := hg2.size
 have hB8 := fb_new hB0 hg2
 have hk9 := hN0.kept hg2 (by simp)
 have hk10 := hN1.kept hg2 (by simp)
 refine dk0 0 (v := pt B 0) h0 rfl rfl ⟨hB8, hk9, hk10⟩ fun a11 h11 => ?_; clear h0
 refine dk0 1 (v := pt B 0) h11 rfl rfl ⟨hB8, hk9, hk10⟩ fun a12 h12 => ?_; clear h11
 refine dk 2 (v := .int .i64 sb) h12 rfl rfl ⟨hB8, hk9, hk10⟩ (fun x hx => (rn_load1 rfl rfl Try.isAgg3 (hx.2.1.cell rfl))) fun a13 h13 => ?_; clear h12
 have hmm14 := mxI_p sb 0
 refine dk0 3 (v := .int .i64 (mxI sb 0)) h13 rfl rfl ⟨hB8, hk9, hk10⟩ fun a15 h15 => ?_; clear h13
 refine dk 4 (v := .int .u64 hz) h15 rfl rfl ⟨hB8, hk9, hk10⟩ (fun x hx => (rn_load1 rfl rfl Try.isAgg29 (hx.2.2.cell rfl))) fun a16 h16 => ?_; clear h15
 refine dk0 5 (v := pt B 0) h16 rfl rfl ⟨hB8, hk9, hk10⟩ fun a17 h17 => ?_; clear h16
 refine dk0 6 (v := pt B 2) h17 rfl rfl ⟨hB8, hk9, hk10⟩ fun a18 h18 => ?_; clear h17
 have hk24 := hB.kept hg2 (by simp)
 refine d1D 7 h18 rfl rfl (op_store1 rfl rfl rfl rfl Try.sizeOf3 hk24 rfl) ?_ ?_; clear h18
 ·
  rintro _ w20 ⟨hk21, hz22, hg23⟩
  have hk21' : Blk w20 B 74 #[.int .i64 k, .int .i64 (mxI ep 0), .int .i64 (mxI sb 0), .int .i64 0, .bool false, .int .u64 0, .int .u64 0, .int .i64 (mxI n 0), .int .i64 (mxI m 0), .int .i64 (mxI p 0), .int .i64 0, .string (⟨#[]⟩), .string (⟨#[]⟩), .int .i64 0, .slice none 0 0, .int .u64 0, .int .i64 0, .int .i64 0, .slice none 0 0, .slice none 0 0, .slice none 0 0, .slice none 0 0] := hk21; clear hk21
  have hz25 := hg23.size
  have hB26 := fb_at hB8 hg23 (fun hlt => by first | (exfalso; omega) | (simp; done) | simp_all)
  have hk27 := hk9.kept hg23 (by simp; omega)
  have hk28 := hk10.kept hg23 (by simp; omega)
  exact ⟨hB26, hk27, hk28⟩
 rintro _ w20 a19 ⟨hk21, hz22, hg23⟩ h19
 have hk21' : Blk w20 B 74 #[.int .i64 k, .int .i64 (mxI ep 0), .int .i64 (mxI sb 0), .int .i64 0, .bool false, .int .u64 0, .int .u64 0, .int .i64 (mxI n 0), .int .i64 (mxI m 0), .int .i64 (mxI p 0), .int .i64 0, .string (⟨#[]⟩), .string (⟨#[]⟩), .int .i64 0, .slice none 0 0, .int .u64 0, .int .i64 0, .int .i64 0, .slice none 0 0, .slice none 0 0, .slice none 0 0, .slice none 0 0] := hk21; clear hk21
 have hz25 := hg23.size
 have hB26 := fb_at hB8 hg23 (fun hlt => by first | (exfalso; omega) | (simp; done) | simp_all)
 have hk27 := hk9.kept hg23 (by simp; omega)
 have hk28 := hk10.kept hg23 (by simp; omega)
 refine dk0 8 (v := pt B 0) h19 rfl rfl ⟨hB26, hk27, hk28⟩ fun a29 h29 => ?_; clear h19
 refine dk0 9 (v := pt B 5) h29 rfl rfl ⟨hB26, hk27, hk28⟩ fun a30 h30 => ?_; clear h29
 refine d1D 10 h30 rfl rfl (op_store1 rfl rfl rfl rfl Try.sizeOf29 hk21' rfl) ?_ ?_; clear h30
 ·
  rintro _ w32 ⟨hk33, hz34, hg35⟩
  have hk33' : Blk w32 B 74 #[.int .i64 k, .int .i64 (mxI ep 0), .int .i64 (mxI sb 0), .int .i64 0, .bool false, .int .u64 hz, .int .u64 0, .int .i64 (mxI n 0), .int .i64 (mxI m 0), .int .i64 (mxI p 0), .int .i64 0, .string (⟨#[]⟩), .string (⟨#[]⟩), .int .i64 0, .slice none 0 0, .int .u64 0, .int .i64 0, .int .i64 0, .slice none 0 0, .slice none 0 0, .slice none 0 0, .slice none 0 0] := hk33; clear hk33
  have hz36 := hg35.size
  have hB37 := fb_at hB26 hg35 (fun hlt => by first | (exfalso; omega) | (simp; done) | simp_all)
  have hk38 := hk27.kept hg35 (by simp; omega)
  have hk39 := hk28.kept hg35 (by simp; omega)
  exact ⟨hB37, hk38, hk39⟩
 rintro _ w32 a31 ⟨hk33, hz34, hg35⟩ h31
 have hk33' : Blk w32 B 74 #[.int .i64 k, .int .i64 (mxI ep 0), .int .i64 (mxI sb 0), .int .i64 0, .bool false, .int .u64 hz, .int .u64 0, .int .i64 (mxI n 0), .int .i64 (mxI m 0), .int .i64 (mxI p 0), .int .i64 0, .string (⟨#[]⟩), .string (⟨#[]⟩), .int .i64 0, .slice none 0 0, .int .u64 0, .int .i64 0, .int .i64 0, .slice none 0 0, .slice none 0 0, .slice none 0 0, .slice none 0 0] := hk33; clear hk33
 have hz36 := hg35.size
 refine dr_done (by kernel_rfl) ?_
 refine co_ret0n h31 rfl ?_
 have hB37 := fb_at hB26 hg35 (fun hlt => by first | (exfalso; omega) | (simp; done) | simp_all)
 exact ⟨rfl, hk33', hB37⟩
set_option maxRecDepth 100000 in
theorem entriesR_any (B : Nat) (N0 : Nat) (k : Int) (ep : Int) (n : Int) (m : Int) (p : Int) (sb : Int) (hz : Int) (v : Value) (l : List EntT) (w : World) (hB : Blk w B 74 #[.int .i64 k, .int .i64 (mxI ep 0), .int .i64 (mxI sb 0), .int .i64 0, .bool false, .int .u64 hz, .int .u64 0, .int .i64 (mxI n 0), .int .i64 (mxI m 0), .int .i64 (mxI p 0), .int .i64 0, .string (⟨#[]⟩), .string (⟨#[]⟩), .int .i64 0, .slice none 0 0, .int .u64 0, .int .i64 0, .int .i64 0, .slice none 0 0, .slice none 0 0, .slice none 0 0, .slice none 0 0]) (hN0 : Blk w N0 69 #[v]) (hlt : N0 < B) (hs : SliceOf entE 4 w v l) (hok : ∀ z ∈ l, EntOk w z) (hl20 : ∀ z ∈ l, z.opl.length ≤ 100) :
    Calls Try.prog 120 #[pt B 0, pt N0 0] w fun e w' => ∃ (L2 : List EntT) (u : Value), e = .returned (.tuple #[]) ∧ w'.ownsRow w.heap.size 38 4 u L2.length (L2.flatMap entE) ∧ EntsH (fun _ => False) w.heap.size w' L2 ∧ L2.map e0 = (l.take (mnI (l.length : Int) 4).toNat).map e0 ∧ Blk w' B 74 #[.int .i64 k, .int .i64 (mxI ep 0), .int .i64 (mxI sb 0), .int .i64 0, .bool false, .int .u64 hz, .int .u64 0, .int .i64 (mxI n 0), .int .i64 (mxI m 0), .int .i64 (mxI p 0), .int .i64 0, .string (⟨#[]⟩), .string (⟨#[]⟩), .int .i64 0, .slice none 0 0, .int .u64 0, .int .i64 0, .int .i64 0, .slice none 0 0, u, .slice none 0 0, .slice none 0 0] ∧ But (fun q => q = B) w w' := by
 have hB0 := But.refl (fun q => q = B) w
 have hl_hB := hB.lt
 have hl_hN0 := hN0.lt
 have hl_hs := sl_len hs
 refine co_enter (n := 12) Try.func120 rfl rfl rfl [(0, pt B 0), (1, pt N0 0)] rfl (fun a h0 => ?_)
 refine co_reg ?_
 refine pk0 (v := pt B 0) h0 rfl fun a1 h1 => ?_; clear h0
 refine pk (v := v) h1 rfl (rn_load1 rfl rfl Try.isAgg69 (hN0.cell rfl)) fun a2 h2 => ?_; clear h1
 refine pk (v := v) h2 rfl (rn_load1 rfl rfl Try.isAgg69 (hN0.cell rfl)) fun a3 h3 => ?_; clear h2
 refine pk (v := .int .i64 ((l.length : Nat) : Int)) h3 rfl (rn_len rfl rfl Try.underlying69 hs) fun a4 h4 => ?_; clear h3
 have hmm5 := mnI_p ((l.length : Nat) : Int) 4
 refine pk0 (v := .int .i64 (mnI ((l.length : Nat) : Int) 4)) h4 rfl fun a6 h6 => ?_; clear h4
 refine pk (v := subV v 0 ((mnI ((l.length : Nat) : Int) 4).toNat) 4) h6 rfl (rn_sliceTo rfl rfl rfl Try.underlying69 Try.sizeOf38 hs (by omega) (by omega)) fun a7 h7 => ?_; clear h6
 refine pw h7 rfl (op_call (args := #[subV v 0 ((mnI ((l.length : Nat) : Int) 4).toNat) 4]) (R := fun res xw => ∃ L2 : List EntT, ∃ u : Value, res = u ∧ xw.ownsRow w.heap.size 38 4 u L2.length (L2.flatMap entE) ∧ EntsH (fun _ => False) w.heap.size xw L2 ∧ L2.map e0 = (l.take ((mnI ((l.length : Nat) : Int) 4).toNat)).map e0 ∧ Below w.heap.size w xw) rfl rfl rfl (by kernel_rfl) (by kernel_rfl) (Try.call121 _ _) (freshEntriesH_any (subV v 0 ((mnI ((l.length : Nat) : Int) 4).toNat) 4) (l.take ((mnI ((l.length : Nat) : Int) 4).toNat)) w (sl_take hs _ (by omega)) (fun z hz => hok z (List.mem_of_mem_take hz)) (fun z hz => hl20 z (List.mem_of_mem_take hz)) (by rw [List.length_take]; omega)) (by rintro e x ⟨L2, u, rfl, hq12, hq13, hq14, hb15⟩; exact ⟨_, rfl, ⟨L2, u, rfl, hq12, hq13, hq14, hb15⟩⟩)) ?_; clear h7
 rintro u11 w9 a8 ⟨L210, _, rfl, hq12, hq13, hq14, hb15⟩ h8
 have hz16 := hb15.size
 have hl17 := sl_len (row_sl hq12 entE_len)
 have hll18 : L210.length = (l.take ((mnI ((l.length : Nat) : Int) 4).toNat)).length := by have hq := congrArg List.length hq14; rwa [List.length_map, List.length_map] at hq
 refine pk0 (v := pt B 0) h8 rfl fun a19 h19 => ?_; clear h8
 refine pk0 (v := pt B 19) h19 rfl fun a20 h20 => ?_; clear h19
 have hk26 := hB.below hb15
 refine pwD h20 rfl (op_store1 rfl rfl rfl (row_one hq12) Try.sizeOf69 hk26 rfl) ?_; clear h20
 rintro _ w22 a21 ⟨hk23, hz24, hg25⟩ h21
 have hk23' : Blk w22 B 74 #[.int .i64 k, .int .i64 (mxI ep 0), .int .i64 (mxI sb 0), .int .i64 0, .bool false, .int .u64 hz, .int .u64 0, .int .i64 (mxI n 0), .int .i64 (mxI m 0), .int .i64 (mxI p 0), .int .i64 0, .string (⟨#[]⟩), .string (⟨#[]⟩), .int .i64 0, .slice none 0 0, .int .u64 0, .int .i64 0, .int .i64 0, .slice none 0 0, u11, .slice none 0 0, .slice none 0 0] := hk23; clear hk23
 have hz27 := hg25.size
 refine pl_nil ?_
 refine co_ret0n h21 rfl ?_
 have hr28 := row_kept_at hq12 hg25 (own_neT hq12 hk26 (by decide))
 have hE29 := hq13.blk hk26 (by decide) hg25
 have hB30 := fb_call hB0 hb15
 have hB31 := fb_at hB30 hg25 (fun hlt => by first | (exfalso; omega) | (simp; done) | simp_all)
 exact ⟨_, _, rfl, (row_lows hr28 (by omega)), hE29, hq14, hk23', hB31⟩
end Go.Proofs.Ytlbemlodcdgakaa

/- Objects with a footprint: what holds of them depends on the blocks in S alone; a call turns S, and what it makes joins it. Conditions: none. -/
namespace Go.Proofs.Ytlbemlodcdgakaa
open Go.RowKit Go.PlainAid
set_option linter.unusedVariables false

/-- S' holds what S held, and what was made since; nothing but S was turned. -/
structure Grew (S S' : Nat → Prop) (w x : World) : Prop where
  sub : ∀ q, S' q → S q ∨ w.heap.size ≤ q
  but : But S w x
section
variable {S S' D : Nat → Prop} {n N : Nat} {w x : World} {v u : Value} {T e : TypeId} {cs : Array Value} {B sz k : Nat} {xs : List Value}
theorem Grew.lo {n0 : Nat} (h : Grew S S' w x) (hlo : ∀ q, S q → n0 ≤ q) (hn : n0 ≤ w.heap.size) : ∀ q, S' q → n0 ≤ q := fun q hq => by
  rcases h.sub q hq with k | k
  · exact hlo q k
  · omega
theorem Grew.off (h : Grew S S' w x) (hN : ¬ S N) (hl : N < w.heap.size) : ¬ S' N := fun hq => by
  rcases h.sub N hq with k | k
  · exact hN k
  · omega
theorem Blk.butS (h : Blk w N T cs) (hb : But S w x) (hn : ¬ S N) : Blk x N T cs := by
  have hl := h.lt
  unfold Blk at h ⊢
  rw [hb.block N hl hn]; exact h
theorem row_block {i : Nat} (h : w.ownsRow B e sz v k xs) (hi : v.ownBlock = some i) : ∃ cs, w.heap[i]? = some (.cells cs e (0, 0)) := by
  rcases h.2 with ⟨rfl, _⟩ | ⟨g, c, cur, rfl, _, hh, _⟩
  · simp [Value.ownBlock] at hi
  · simp only [Value.ownBlock, Option.some.injEq] at hi; subst hi; exact ⟨_, hh⟩
theorem row_sameL (h : w.ownsRow B e sz v k xs) (hk : ∀ i, v.ownBlock = some i → x.heap[i]? = w.heap[i]?) : x.ownsRow B e sz v k xs := by
  refine ⟨h.1, ?_⟩
  rcases h.2 with h1 | ⟨g, c, cur, rfl, hg, hh, h3⟩
  · exact .inl h1
  · exact .inr ⟨g, c, cur, rfl, hg, by rw [hk g rfl]; exact hh, h3⟩
theorem MapB.butS {K : Type} [DecidableEq K] {kv : K → Value} {l : List (K × Value)} (h : MapB kv w B l) (hb : But S w x) (hn : ¬ S B) : MapB kv x B l := by
  have hl := h.lt
  obtain ⟨es, cl, h1, h2⟩ := h
  exact ⟨es, cl, by rw [hb.block B hl hn]; exact h1, h2⟩
theorem MapO.butS {K V : Type} [DecidableEq K] {kv : K → Value} {enc : V → Value} {g : K → Option V} {c : Nat} (h : MapO kv enc w B g c) (hb : But S w x) (hn : ¬ S B) : MapO kv enc x B g c := by
  obtain ⟨l, h1, h2⟩ := h; exact ⟨l, h1.butS hb hn, h2⟩
theorem MapG.butS {K V : Type} [DecidableEq K] {kv : K → Value} {enc : V → Value} {z : V} {g : K → V} (h : MapG kv enc z w B g) (hb : But S w x) (hn : ¬ S B) : MapG kv enc z x B g := by
  obtain ⟨l, h1, h2⟩ := h; exact ⟨l, h1.butS hb hn, h2⟩
/-- A slice that came in ahead of all that S has. -/
theorem sl_off {α : Type} {enc : α → List Value} {l : List α} (h : SliceOf enc sz w v l) (hne : ∀ y ∈ l, enc y ≠ []) (hlo : ∀ q, S q → w.heap.size ≤ q) : l ≠ [] → ∀ k, v.ownBlock = some k → ¬ S k := by
  intro hl k hk hq
  obtain ⟨ao, cap, rfl, h1, h2, h3, h4⟩ := h
  cases l with
  | nil => exact hl rfl
  | cons y r =>
    obtain ⟨b, off, rfl, hr⟩ := h4 0 (by simp)
    have hy := hne y (by simp)
    have hne0 : 0 < (enc y).length := by cases he : enc y with | nil => exact absurd he hy | cons a t => simp
    have hc := hr 0 _ (List.getElem?_eq_getElem hne0)
    have hlt := World.block_lt_of_cell? w _ hc
    simp only [Value.ownBlock, Option.some.injEq] at hk
    have := hlo k hq
    simp at hlt
    omega
end
end Go.Proofs.Ytlbemlodcdgakaa

/- Package relay: the timestamps' closure. Conditions: none. -/
namespace Go.Proofs.Ytlbemlodcdgakaa
open Go.RowKit Go.PlainAid
set_option linter.unusedVariables false
set_option linter.unusedSimpArgs false


def tsL (l : List EntT) : List Int := l.map (·.ts)
theorem tsL_len (l : List EntT) : (tsL l).length = l.length := List.length_map ..
theorem tsL_at {l : List EntT} {i : Nat} {y : EntT} (h : l[i]? = some y) : tsL (l.take i) ++ [y.ts] = tsL (l.take (i + 1)) := by
  unfold tsL; rw [List.take_add_one, h, List.map_append]; rfl
theorem entsH_low {m n : Nat} {w : World} {L : List EntT} (h : EntsH (fun _ => False) m w L) (hn : n ≤ m) : EntsH (fun _ => False) n w L := fun z hz => by
  have k := h z hz
  exact ⟨k.row, fun q hq => (k.ins q hq).elim (fun f => f.elim) (fun f => .inr (Nat.le_trans hn f)), k.len, k.each, k.ts0, k.ts1, k.cl, k.rq⟩
theorem sl_butS {α : Type} {enc : α → List Value} {sz : Nat} {w x : World} {v : Value} {l : List α} {S : Nat → Prop} (h : SliceOf enc sz w v l) (hb : But S w x) (hv : l ≠ [] → ∀ k, v.ownBlock = some k → ¬ S k) : SliceOf enc sz x v l := by
  obtain ⟨ao, cap, rfl, h1, h2, h3, h4⟩ := h
  refine ⟨ao, cap, rfl, h1, h2, h3, fun j hj => ?_⟩
  obtain ⟨b, off, rfl, hr⟩ := h4 j hj
  exact ⟨b, off, rfl, fun i u hu => hb.cell (hv (fun e => by rw [e] at hj; exact absurd hj (by simp)) b rfl) (hr i u hu)⟩
theorem sl_ltS {α : Type} {enc : α → List Value} {sz : Nat} {w : World} {v : Value} {l : List α} (h : SliceOf enc sz w v l) (hne : ∀ y ∈ l, enc y ≠ []) (hl : l ≠ []) {k : Nat} (hk : v.ownBlock = some k) : k < w.heap.size :=
  Nat.lt_of_not_le fun hq => sl_off (S := fun q => w.heap.size ≤ q) h hne (fun q h => h) hl k hk hq
theorem entE_neB (y : EntT) : entE y ≠ [] := by simp [entE]
theorem opE_neB (y : OpT) : opE y ≠ [] := by simp [opE]
theorem EntOk.butS {w x : World} {e : EntT} {S : Nat → Prop} (h : EntOk w e) (hb : But S w x) (hv : e.opl ≠ [] → ∀ k, e.ops.ownBlock = some k → ¬ S k) : EntOk x e := ⟨sl_butS h.ops hb hv, h.each, h.ts0, h.ts1, h.cl, h.rq⟩
theorem tsL_tk {l : List EntT} {i : Nat} (h : i ≤ l.length) : (tsL (l.take i)).length = i := by rw [tsL_len, List.length_take]; omega

set_option maxRecDepth 100000 in
theorem stampsR_any (B : Nat) (N0 : Nat) (k : Int) (ep : Int) (n : Int) (m : Int) (p : Int) (v : Value) (l : List EntT) (w : World) (hB : Blk w B 74 #[.int .i64 k, .int .i64 (mxI ep 0), .int .i64 0, .int .i64 0, .bool false, .int .u64 0, .int .u64 0, .int .i64 (mxI n 0), .int .i64 (mxI m 0), .int .i64 (mxI p 0), .int .i64 0, .string (⟨#[]⟩), .string (⟨#[]⟩), .int .i64 0, .slice none 0 0, .int .u64 0, .int .i64 0, .int .i64 0, .slice none 0 0, .slice none 0 0, .slice none 0 0, .slice none 0 0]) (hN0 : Blk w N0 69 #[v]) (hlt : N0 < B) (hs : SliceOf entE 4 w v l) (hok : ∀ z ∈ l, EntOk w z) (hvB : l ≠ [] → ∀ k, v.ownBlock = some k → ¬ k = B) (hoB : ∀ z ∈ l, z.opl ≠ [] → ∀ k, z.ops.ownBlock = some k → ¬ k = B) :
    Calls Try.prog 122 #[pt B 0, pt N0 0] w fun e w' => ∃ (u : Value), e = .returned (.tuple #[]) ∧ w'.ownsRow w.heap.size 29 1 u (tsL (l.take (mnI ((stN l : Nat) : Int) 8).toNat)).length ((tsL (l.take (mnI ((stN l : Nat) : Int) 8).toNat)).flatMap (intE .u64)) ∧ Blk w' B 74 #[.int .i64 k, .int .i64 (mxI ep 0), .int .i64 0, .int .i64 0, .bool false, .int .u64 0, .int .u64 0, .int .i64 (mxI n 0), .int .i64 (mxI m 0), .int .i64 (mxI p 0), .int .i64 0, .string (⟨#[]⟩), .string (⟨#[]⟩), .int .i64 0, .slice none 0 0, .int .u64 0, .int .i64 0, .int .i64 0, .slice none 0 0, .slice none 0 0, u, .slice none 0 0] ∧ But (fun q => q = B) w w' := by
 have hsl := stN_le l
 have hB0 := But.refl (fun q => q = B) w
 have hl_hB := hB.lt
 have hl_hN0 := hN0.lt
 have hl_hs := sl_len hs
 refine co_enter (n := 27) Try.func122 rfl rfl rfl [(0, pt B 0), (1, pt N0 0)] rfl (fun a h0 => ?_)
 refine co_seq ?_
 refine dr_gen (fun x => But (fun q => q = B) w x ∧ Blk x N0 69 #[v]) (by kernel_rfl) (fun w1 hg2 => ?_) (fun w1 hg2 => ?_)
 ·
  have hz3 := hg2.size
  have hB4 := fb_new hB0 hg2
  have hk5 := hN0.kept hg2 (by simp)
  exact ⟨hB4, hk5⟩
 have hz6 := hg2.size
 have hB7 := fb_new hB0 hg2
 have hk8 := hN0.kept hg2 (by simp)
 refine dk 0 (v := v) h0 rfl rfl ⟨hB7, hk8⟩ (fun x hx => (rn_load1 rfl rfl Try.isAgg69 (hx.2.cell rfl))) fun a9 h9 => ?_; clear h0
 refine dk 1 (v := v) h9 rfl rfl ⟨hB7, hk8⟩ (fun x hx => (rn_load1 rfl rfl Try.isAgg69 (hx.2.cell rfl))) fun a10 h10 => ?_; clear h9
 refine dk0 6 (v := .int .i64 0) h10 rfl rfl ⟨hB7, hk8⟩ fun a11 h11 => ?_; clear h10
 refine d1 2 h11 rfl rfl (op_call (args := #[v]) (R := fun res xw => res = .int .i64 ((stN l : Nat) : Int) ∧ Below w1.heap.size w1 xw) rfl rfl rfl (by kernel_rfl) (by kernel_rfl) (Try.call70 _ _) (itemStamped_any v l w1 (sl_butS hs hB7 hvB) (fun z hz => EntOk.butS (hok z hz) hB7 (hoB z hz))) (by rintro e x ⟨rfl, hb14⟩; exact ⟨_, rfl, ⟨rfl, hb14⟩⟩)) ?_ ?_; clear h11
 ·
  rintro _ w13 ⟨rfl, hb14⟩
  have hz15 := hb14.size
  have hB16 := fb_call hB7 hb14
  have hk17 := hk8.below hb14
  exact ⟨hB16, hk17⟩
 rintro _ w13 a12 ⟨rfl, hb14⟩ h12
 have hz15 := hb14.size
 have hB16 := fb_call hB7 hb14
 have hk17 := hk8.below hb14
 have hmm18 := mnI_p ((stN l : Nat) : Int) 8
 refine dk0 3 (v := .int .i64 (mnI ((stN l : Nat) : Int) 8)) h12 rfl rfl ⟨hB16, hk17⟩ fun a19 h19 => ?_; clear h12
 refine dk 4 (v := subV v 0 ((mnI ((stN l : Nat) : Int) 8).toNat) 4) h19 rfl rfl ⟨hB16, hk17⟩ (fun x hx => (rn_sliceTo rfl rfl rfl Try.underlying69 Try.sizeOf38 (sl_butS hs hx.1 hvB) (by omega) (by omega))) fun a20 h20 => ?_; clear h19
 refine dk 5 (v := .int .i64 (((l.take ((mnI ((stN l : Nat) : Int) 8).toNat)).length : Nat) : Int)) h20 rfl rfl ⟨hB16, hk17⟩ (fun x hx => (rn_len rfl rfl Try.underlying69 (sl_take (sl_butS hs hx.1 hvB) _ (by omega)))) fun a21 h21 => ?_; clear h20
 refine dr_done (by kernel_rfl) ?_
 refine co_then ?_
 refine wp_block ?_
 have h22 : Slots 27 [(0, pt B 0), (1, pt N0 0), (9, subV v 0 ((mnI ((stN l : Nat) : Int) 8).toNat) 4), (10, .int .i64 (((l.take ((mnI ((stN l : Nat) : Int) 8).toNat)).length : Nat) : Int)), (11, .int .i64 0)] _ := h21.sub ⟨rfl, rfl, rfl, rfl, rfl, trivial⟩; clear h21
 refine co_loop (fun mm a x => ∃ (i : Nat) (u : Value), Slots 27 [(0, pt B 0), (1, pt N0 0), (9, subV v 0 ((mnI ((stN l : Nat) : Int) 8).toNat) 4), (10, .int .i64 (((l.take ((mnI ((stN l : Nat) : Int) 8).toNat)).length : Nat) : Int)), (11, .int .i64 ((i : Nat) : Int))] a ∧ mm = (l.take ((mnI ((stN l : Nat) : Int) 8).toNat)).length - i ∧ (i ≤ (l.take ((mnI ((stN l : Nat) : Int) 8).toNat)).length) ∧ Blk x B 74 #[.int .i64 k, .int .i64 (mxI ep 0), .int .i64 0, .int .i64 0, .bool false, .int .u64 0, .int .u64 0, .int .i64 (mxI n 0), .int .i64 (mxI m 0), .int .i64 (mxI p 0), .int .i64 0, .string (⟨#[]⟩), .string (⟨#[]⟩), .int .i64 0, .slice none 0 0, .int .u64 0, .int .i64 0, .int .i64 0, .slice none 0 0, .slice none 0 0, u, .slice none 0 0] ∧ x.ownsRow w.heap.size 29 1 u (tsL ((l.take ((mnI ((stN l : Nat) : Int) 8).toNat)).take i)).length ((tsL ((l.take ((mnI ((stN l : Nat) : Int) 8).toNat)).take i)).flatMap (intE .u64)) ∧ But (fun q => q = B) w x) ((l.take ((mnI ((stN l : Nat) : Int) 8).toNat)).length - 0) ?_ ?_
 have hk23 := hB.kept hg2 (by simp)
 have hk24 := hk23.below hb14
 · exact ⟨0, (.slice none 0 0), h22.sub ⟨rfl, rfl, rfl, rfl, (slot_eq rfl (congrArg (Value.int .i64) (by first | rfl | omega))), trivial⟩, rfl, by omega, hk24, (row_nilL _ _ _ _ _), hB16⟩
 · rintro k25 a26 w27 ⟨i, u, h26, rfl, hi28, hf29, hf30, hB31⟩
   have hz32 := hB31.size
   have hl33 := hf29.lt
   have htl := tsL_tk (l := l.take ((mnI ((stN l : Nat) : Int) 8).toNat)) (i := i) (by assumption)
   have hll : (l.take ((mnI ((stN l : Nat) : Int) 8).toNat)).length = (mnI ((stN l : Nat) : Int) 8).toNat := by rw [List.length_take]; have := stN_le l; omega
   have hl8 : (l.take ((mnI ((stN l : Nat) : Int) 8).toNat)).length ≤ 8 := by have := mnI_p ((stN l : Nat) : Int) 8; omega
   refine co_seq ?_
   refine co_reg ?_
   refine pk0 (v := .bool (decide (((i : Nat) : Int) < (((l.take ((mnI ((stN l : Nat) : Int) 8).toNat)).length : Nat) : Int)))) h26 rfl fun a34 h34 => ?_; clear h26
   refine pl_nil ?_
   refine co_then ?_
   refine co_seq ?_
   cases hc35 : (decide (((i : Nat) : Int) < (((l.take ((mnI ((stN l : Nat) : Int) 8).toNat)).length : Nat) : Int)))
   ·
    rw [hc35] at h34
    have hp36 : ¬ (((i : Nat) : Int) < (((l.take ((mnI ((stN l : Nat) : Int) 8).toNat)).length : Nat) : Int)) := of_decide_eq_false hc35
    clear hc35
    refine co_false h34 rfl ?_
    refine wp_exit ?_
    refine co_thenX ?_
    refine co_thenX ?_
    refine co_blockX ?_
    refine co_ret0n h34 rfl ?_
    exact ⟨_, rfl, (row_eq (row_lows hf30 (by omega)) (by rw [List.take_of_length_le (by omega)])), hf29, hB31⟩
   ·
    rw [hc35] at h34
    have hp37 : ((i : Nat) : Int) < (((l.take ((mnI ((stN l : Nat) : Int) 8).toNat)).length : Nat) : Int) := of_decide_eq_true hc35
    clear hc35
    refine co_true h34 rfl ?_
    refine wp_skip ?_
    refine co_then ?_
    refine co_seq ?_
    refine wp_block ?_
    refine co_seq ?_
    refine co_reg ?_
    obtain ⟨y38, hy38⟩ : ∃ z, (l.take ((mnI ((stN l : Nat) : Int) 8).toNat))[i]? = some z := ⟨_, List.getElem?_eq_getElem (by first | omega | (simp; done) | (simp; omega))⟩
    have oky38 := (fun z hz => hok z (List.mem_of_mem_take hz)) _ (List.mem_of_getElem? hy38)
    have k39 : 0 ≤ y38.ts := oky38.ts0
    have k40 : y38.ts < 18446744073709551616 := oky38.ts1
    refine pk (v := pt (blkOf (subV v 0 ((mnI ((stN l : Nat) : Int) 8).toNat) 4)) (offOf (subV v 0 ((mnI ((stN l : Nat) : Int) 8).toNat) 4) + i * 4)) h34 rfl (rn_index rfl rfl rfl Try.underlying69 Try.sizeOf38 (sl_take (sl_butS hs hB31 hvB) _ (by omega)) (by omega) (by first | omega | (simp; done) | (simp; omega))) fun a41 h41 => ?_; clear h34
    refine pk (v := .agg #[.int .i64 y38.client, .int .i64 y38.req, y38.ops, .int .u64 y38.ts]) h41 rfl (rn_loadN rfl rfl Try.underlying38 rfl (by kernel_rfl) (sl_at (sl_take (sl_butS hs hB31 hvB) _ (by omega)) hy38)) fun a42 h42 => ?_; clear h41
    refine pw h42 rfl (op_new (v := fun N => pt N 0) (T := 38) (cs := #[.int .i64 0, .int .i64 0, .slice none 0 0, .int .u64 0]) (by kernel_rfl) (by kernel_rfl) (by kernel_rfl)) ?_; clear h42
    rintro _ w44 a43 ⟨N45, rfl, hN48, hz49, hk47, hg46⟩ h43
    have ha50 := row_fresh hf30 hN48
    have hz51 := hg46.size
    try dsimp only at h43
    refine pwD h43 rfl (op_storeN rfl rfl rfl (all_cons rfl (all_cons rfl (all_cons (sl_one oky38.ops) (all_cons rfl all_nil)))) (by kernel_rfl) hk47 rfl) ?_; clear h43
    rintro _ w53 a52 ⟨hk54, hz55, hg56⟩ h52
    have hk54' : Blk w53 N45 38 #[.int .i64 y38.client, .int .i64 y38.req, y38.ops, .int .u64 y38.ts] := hk54; clear hk54
    have hz57 := hg56.size
    refine pl_nil ?_
    refine co_then ?_
    refine dr_gen (fun x => But (fun q => q = B) w x ∧ Blk x N45 38 #[.int .i64 y38.client, .int .i64 y38.req, y38.ops, .int .u64 y38.ts]) (by kernel_rfl) (fun w58 hg59 => ?_) (fun w58 hg59 => ?_)
    ·
     have hz60 := hg59.size
     have hB61 := fb_new hB31 hg46
     have hB62 := fb_at hB61 hg56 (fun hlt => by first | (exfalso; omega) | (simp; done) | simp_all)
     have hB63 := fb_new hB62 hg59
     have hk64 := hk54'.kept hg59 (by simp)
     exact ⟨hB63, hk64⟩
    have hz65 := hg59.size
    have hB66 := fb_new hB31 hg46
    have hB67 := fb_at hB66 hg56 (fun hlt => by first | (exfalso; omega) | (simp; done) | simp_all)
    have hB68 := fb_new hB67 hg59
    have hk69 := hk54'.kept hg59 (by simp)
    refine dk0 0 (v := pt B 0) h52 rfl rfl ⟨hB68, hk69⟩ fun a70 h70 => ?_; clear h52
    refine dk0 1 (v := pt B 0) h70 rfl rfl ⟨hB68, hk69⟩ fun a71 h71 => ?_; clear h70
    refine dk0 2 (v := pt B 0) h71 rfl rfl ⟨hB68, hk69⟩ fun a72 h72 => ?_; clear h71
    refine dk0 3 (v := pt B 20) h72 rfl rfl ⟨hB68, hk69⟩ fun a73 h73 => ?_; clear h72
    refine dk0 5 (v := pt N45 3) h73 rfl rfl ⟨hB68, hk69⟩ fun a74 h74 => ?_; clear h73
    refine dk 6 (v := .int .u64 y38.ts) h74 rfl rfl ⟨hB68, hk69⟩ (fun x hx => (rn_load1 rfl rfl Try.isAgg29 (hx.2.cell rfl))) fun a75 h75 => ?_; clear h74
    refine dr_many [4, 7] (by kernel_rfl) (by simp) ⟨?_, ?_, trivial⟩
    ·
     have hk76 := hf29.kept hg46 (by simp)
     have hk77 := hk76.kept hg56 (by simp; omega)
     have hk78 := hk77.kept hg59 (by simp)
     refine dr_opVal (i := 4) (v := u) h75 rfl rfl rfl rfl (by kernel_rfl) rfl (rn_load1 rfl rfl Try.isAgg71 (hk78.cell rfl)) ⟨hB68, hk69⟩ (fun a79 h79 => ?_); clear h75
     refine d1 7 h79 rfl rfl (op_new (v := fun N => .slice (some ⟨N, 0, none⟩) 1 1) (T := 29) (cs := #[.int .u64 y38.ts]) (by kernel_rfl) (by kernel_rfl) (by kernel_rfl)) ?_ ?_; clear h79
     ·
      rintro _ w81 ⟨N82, rfl, hN85, hz86, hk84, hg83⟩
      have hr88 := row_kept_new hf30 hg46
      have hr89 := row_kept_at hr88 hg56 (ha50)
      have hr90 := row_kept_new hr89 hg59
      have ha87 := row_fresh hr90 hN85
      have hz91 := hg83.size
      have hB92 := fb_new hB68 hg83
      have hk93 := hk69.kept hg83 (by simp)
      exact ⟨hB92, hk93⟩
     rintro _ w81 a80 ⟨N82, rfl, hN85, hz86, hk84, hg83⟩ h80
     have hr88 := row_kept_new hf30 hg46
     have hr89 := row_kept_at hr88 hg56 (ha50)
     have hr90 := row_kept_new hr89 hg59
     have ha87 := row_fresh hr90 hN85
     have hz91 := hg83.size
     try dsimp only at h80
     have hB92 := fb_new hB68 hg83
     have hk93 := hk69.kept hg83 (by simp)
     have hr100 := row_kept_new hr90 hg83
     refine d1 8 h80 rfl rfl (op_append rfl w.heap.size 29 (z := .int .u64 0) (size := 1) (bytes := 8) Try.underlying71 (by kernel_rfl) rfl rfl rfl hr100 rfl hk84 rfl (by kernel_rfl) (by first | omega | (simp only [List.length_nil, List.length_append, List.length_cons, List.length_take, List.length_drop]; omega)) (by first | omega | (simp only [List.length_nil, List.length_append, List.length_cons, List.length_take, List.length_drop]; omega)) (by omega)) ?_ ?_; clear h80
     ·
      rintro v96 w95 ⟨hr97, hg98⟩
      have hr97' : w95.ownsRow w.heap.size 29 1 v96 ((tsL ((l.take ((mnI ((stN l : Nat) : Int) 8).toNat)).take i) ++ [y38.ts]).length) ((tsL ((l.take ((mnI ((stN l : Nat) : Int) 8).toNat)).take i) ++ [y38.ts]).flatMap (intE .u64)) := row_push (y := y38.ts) hr97 rfl rfl; clear hr97
      have hz101 := hg98.size
      have hB102 := fb_row hB92 hr100 (by omega) hg98
      have hk103 := hk93.kept hg98 (ha50)
      exact ⟨hB102, hk103⟩
     rintro v96 w95 a94 ⟨hr97, hg98⟩ h94
     have hr97' : w95.ownsRow w.heap.size 29 1 v96 ((tsL ((l.take ((mnI ((stN l : Nat) : Int) 8).toNat)).take i) ++ [y38.ts]).length) ((tsL ((l.take ((mnI ((stN l : Nat) : Int) 8).toNat)).take i) ++ [y38.ts]).flatMap (intE .u64)) := row_push (y := y38.ts) hr97 rfl rfl; clear hr97
     have hz101 := hg98.size
     have hB102 := fb_row hB92 hr100 (by omega) hg98
     have hk103 := hk93.kept hg98 (ha50)
     refine dk0 9 (v := pt B 0) h94 rfl rfl ⟨hB102, hk103⟩ fun a104 h104 => ?_; clear h94
     refine dk0 10 (v := pt B 20) h104 rfl rfl ⟨hB102, hk103⟩ fun a105 h105 => ?_; clear h104
     have hk111 := hk78.kept hg83 (by simp)
     have hk112 := hk111.kept hg98 (own_neT hr100 hk111 (by decide))
     refine d1D 11 h105 rfl rfl (op_store1 rfl rfl rfl (row_one hr97') Try.sizeOf71 hk112 rfl) ?_ ?_; clear h105
     ·
      rintro _ w107 ⟨hk108, hz109, hg110⟩
      have hk108' : Blk w107 B 74 #[.int .i64 k, .int .i64 (mxI ep 0), .int .i64 0, .int .i64 0, .bool false, .int .u64 0, .int .u64 0, .int .i64 (mxI n 0), .int .i64 (mxI m 0), .int .i64 (mxI p 0), .int .i64 0, .string (⟨#[]⟩), .string (⟨#[]⟩), .int .i64 0, .slice none 0 0, .int .u64 0, .int .i64 0, .int .i64 0, .slice none 0 0, .slice none 0 0, v96, .slice none 0 0] := hk108; clear hk108
      have hz113 := hg110.size
      have hB114 := fb_at hB102 hg110 (fun hlt => by first | (exfalso; omega) | (simp; done) | simp_all)
      have hk115 := hk103.kept hg110 (by simp; omega)
      exact ⟨hB114, hk115⟩
     rintro _ w107 a106 ⟨hk108, hz109, hg110⟩ h106
     have hk108' : Blk w107 B 74 #[.int .i64 k, .int .i64 (mxI ep 0), .int .i64 0, .int .i64 0, .bool false, .int .u64 0, .int .u64 0, .int .i64 (mxI n 0), .int .i64 (mxI m 0), .int .i64 (mxI p 0), .int .i64 0, .string (⟨#[]⟩), .string (⟨#[]⟩), .int .i64 0, .slice none 0 0, .int .u64 0, .int .i64 0, .int .i64 0, .slice none 0 0, .slice none 0 0, v96, .slice none 0 0] := hk108; clear hk108
     have hz113 := hg110.size
     refine dr_done (by kernel_rfl) ?_
     refine co_blockN ?_
     refine co_then ?_
     refine co_reg ?_
     refine pk (v := .int .i64 ((i + 1 : Nat) : Int)) h106 rfl (rn_arith' rfl rfl rfl rfl rfl rfl (IntWalk.i64_in _ (by omega)) (by omega)) fun a114 h114 => ?_; clear h106
     refine pk0 (v := .int .i64 ((i + 1 : Nat) : Int)) h114 rfl fun a115 h115 => ?_; clear h114
     refine pl_nil ?_
     refine co_then ?_
     refine ⟨((l.take ((mnI ((stN l : Nat) : Int) 8).toNat)).length - (i + 1)), by omega, ?_⟩
     have hr116 := row_kept_at hr97' hg110 (own_neT hr97' hk112 (by decide))
     have hB117 := fb_at hB102 hg110 (fun hlt => by first | (exfalso; omega) | (simp; done) | simp_all)
     exact ⟨i + 1, v96, h115.sub ⟨rfl, rfl, rfl, rfl, rfl, trivial⟩, rfl, by omega, hk108', (row_eq hr116 (by first | rfl | exact tsL_at (by assumption))), hB117⟩
    ·
     refine dr_op (i := 7) h75 rfl rfl rfl rfl (op_new (v := fun N => .slice (some ⟨N, 0, none⟩) 1 1) (T := 29) (cs := #[.int .u64 y38.ts]) (by kernel_rfl) (by kernel_rfl) (by kernel_rfl)) ?_ ?_; clear h75
     ·
      rintro _ w119 ⟨N120, rfl, hN123, hz124, hk122, hg121⟩
      have hr126 := row_kept_new hf30 hg46
      have hr127 := row_kept_at hr126 hg56 (ha50)
      have hr128 := row_kept_new hr127 hg59
      have ha125 := row_fresh hr128 hN123
      have hz129 := hg121.size
      have hB130 := fb_new hB68 hg121
      have hk131 := hk69.kept hg121 (by simp)
      exact ⟨hB130, hk131⟩
     rintro _ w119 a118 ⟨N120, rfl, hN123, hz124, hk122, hg121⟩ h118
     have hr126 := row_kept_new hf30 hg46
     have hr127 := row_kept_at hr126 hg56 (ha50)
     have hr128 := row_kept_new hr127 hg59
     have ha125 := row_fresh hr128 hN123
     have hz129 := hg121.size
     try dsimp only at h118
     have hB130 := fb_new hB68 hg121
     have hk131 := hk69.kept hg121 (by simp)
     refine dr_many [4] (by kernel_rfl) (by simp) ⟨?_, trivial⟩
     ·
      have hk132 := hf29.kept hg46 (by simp)
      have hk133 := hk132.kept hg56 (by simp; omega)
      have hk134 := hk133.kept hg59 (by simp)
      have hk135 := hk134.kept hg121 (by simp)
      refine dr_opVal (i := 4) (v := u) h118 rfl rfl rfl rfl (by kernel_rfl) rfl (rn_load1 rfl rfl Try.isAgg71 (hk135.cell rfl)) ⟨hB130, hk131⟩ (fun a136 h136 => ?_); clear h118
      have hr143 := row_kept_new hr128 hg121
      refine d1 8 h136 rfl rfl (op_append rfl w.heap.size 29 (z := .int .u64 0) (size := 1) (bytes := 8) Try.underlying71 (by kernel_rfl) rfl rfl rfl hr143 rfl hk122 rfl (by kernel_rfl) (by first | omega | (simp only [List.length_nil, List.length_append, List.length_cons, List.length_take, List.length_drop]; omega)) (by first | omega | (simp only [List.length_nil, List.length_append, List.length_cons, List.length_take, List.length_drop]; omega)) (by omega)) ?_ ?_; clear h136
      ·
       rintro v139 w138 ⟨hr140, hg141⟩
       have hr140' : w138.ownsRow w.heap.size 29 1 v139 ((tsL ((l.take ((mnI ((stN l : Nat) : Int) 8).toNat)).take i) ++ [y38.ts]).length) ((tsL ((l.take ((mnI ((stN l : Nat) : Int) 8).toNat)).take i) ++ [y38.ts]).flatMap (intE .u64)) := row_push (y := y38.ts) hr140 rfl rfl; clear hr140
       have hz144 := hg141.size
       have hB145 := fb_row hB130 hr143 (by omega) hg141
       have hk146 := hk131.kept hg141 (ha50)
       exact ⟨hB145, hk146⟩
      rintro v139 w138 a137 ⟨hr140, hg141⟩ h137
      have hr140' : w138.ownsRow w.heap.size 29 1 v139 ((tsL ((l.take ((mnI ((stN l : Nat) : Int) 8).toNat)).take i) ++ [y38.ts]).length) ((tsL ((l.take ((mnI ((stN l : Nat) : Int) 8).toNat)).take i) ++ [y38.ts]).flatMap (intE .u64)) := row_push (y := y38.ts) hr140 rfl rfl; clear hr140
      have hz144 := hg141.size
      have hB145 := fb_row hB130 hr143 (by omega) hg141
      have hk146 := hk131.kept hg141 (ha50)
      refine dk0 9 (v := pt B 0) h137 rfl rfl ⟨hB145, hk146⟩ fun a147 h147 => ?_; clear h137
      refine dk0 10 (v := pt B 20) h147 rfl rfl ⟨hB145, hk146⟩ fun a148 h148 => ?_; clear h147
      have hk154 := hk135.kept hg141 (own_neT hr143 hk135 (by decide))
      refine d1D 11 h148 rfl rfl (op_store1 rfl rfl rfl (row_one hr140') Try.sizeOf71 hk154 rfl) ?_ ?_; clear h148
      ·
       rintro _ w150 ⟨hk151, hz152, hg153⟩
       have hk151' : Blk w150 B 74 #[.int .i64 k, .int .i64 (mxI ep 0), .int .i64 0, .int .i64 0, .bool false, .int .u64 0, .int .u64 0, .int .i64 (mxI n 0), .int .i64 (mxI m 0), .int .i64 (mxI p 0), .int .i64 0, .string (⟨#[]⟩), .string (⟨#[]⟩), .int .i64 0, .slice none 0 0, .int .u64 0, .int .i64 0, .int .i64 0, .slice none 0 0, .slice none 0 0, v139, .slice none 0 0] := hk151; clear hk151
       have hz155 := hg153.size
       have hB156 := fb_at hB145 hg153 (fun hlt => by first | (exfalso; omega) | (simp; done) | simp_all)
       have hk157 := hk146.kept hg153 (by simp; omega)
       exact ⟨hB156, hk157⟩
      rintro _ w150 a149 ⟨hk151, hz152, hg153⟩ h149
      have hk151' : Blk w150 B 74 #[.int .i64 k, .int .i64 (mxI ep 0), .int .i64 0, .int .i64 0, .bool false, .int .u64 0, .int .u64 0, .int .i64 (mxI n 0), .int .i64 (mxI m 0), .int .i64 (mxI p 0), .int .i64 0, .string (⟨#[]⟩), .string (⟨#[]⟩), .int .i64 0, .slice none 0 0, .int .u64 0, .int .i64 0, .int .i64 0, .slice none 0 0, .slice none 0 0, v139, .slice none 0 0] := hk151; clear hk151
      have hz155 := hg153.size
      refine dr_done (by kernel_rfl) ?_
      refine co_blockN ?_
      refine co_then ?_
      refine co_reg ?_
      refine pk (v := .int .i64 ((i + 1 : Nat) : Int)) h149 rfl (rn_arith' rfl rfl rfl rfl rfl rfl (IntWalk.i64_in _ (by omega)) (by omega)) fun a156 h156 => ?_; clear h149
      refine pk0 (v := .int .i64 ((i + 1 : Nat) : Int)) h156 rfl fun a157 h157 => ?_; clear h156
      refine pl_nil ?_
      refine co_then ?_
      refine ⟨((l.take ((mnI ((stN l : Nat) : Int) 8).toNat)).length - (i + 1)), by omega, ?_⟩
      have hr158 := row_kept_at hr140' hg153 (own_neT hr140' hk154 (by decide))
      have hB159 := fb_at hB145 hg153 (fun hlt => by first | (exfalso; omega) | (simp; done) | simp_all)
      exact ⟨i + 1, v139, h157.sub ⟨rfl, rfl, rfl, rfl, rfl, trivial⟩, rfl, by omega, hk151', (row_eq hr158 (by first | rfl | exact tsL_at (by assumption))), hB159⟩
end Go.Proofs.Ytlbemlodcdgakaa
