/- Put together: LibWm, PexWm, SlWm, PexBWm, PexCWm, PexDWm, PexTWm, MapWm, MapBWm, MapCWm, MapRWm, MapOWm, ButWm, AppStrWm, PexUWm, SortIWm, DiskAWm, DiskBWm, DiskCWm, DiskDWm, DiskEWm, CrcWm, SumAWm, TabWm, VnAWm, VnBWm, VnDWm, VnFWm, FrameAWm, StrOpsWm, FrameBWm, CrcBWm, FrameDWm, BytesWm, FrameGWm, FrameLWm, FrameHWm, StrsWm. Conditions: as each says. -/
import Derived.Test.YtfiplhnplmadmaaDoorRows
import Derived.WalkKit
import Derived.WalkSpells
import Derived.WalkLawsBesides
import Derived.Deep.LoopGhost
import Derived.Lib.Hide
import Derived.Laws.IdiomStrings
import Derived.Lib.QuietBelow
import Derived.BigQuiet
import Derived.PlainAid
import Derived.Lib.SmallJoins
import Derived.Deep.MidRow
import Derived.Deep.RegionHeld3
import Derived.Laws.AppendOwnNone
import Derived.Deep.AppendLies
import Derived.Deep.RegionLaw
import Derived.StringKeys
import Derived.Laws.StructEq
import Derived.Maps.RangeRun
import Derived.MapKept
import Derived.OwnWalk
import Derived.Lib.AppendStr
import Derived.Laws.BytesArg
import Derived.Shelf.Sort.Plain
import Derived.Test.YtfiplhnplmadmaaDoorLayI
import Derived.Laws.Concat
import Derived.Deep.OwnRows
import Derived.RangeFuncNested
import Derived.RangeFuncBound
import Derived.RangeFuncCalls
import Derived.RangeFuncLeaves
import Derived.RangeFuncBox
import Derived.Shelf.Abstract
import Derived.Shelf.RegionOpen
import Derived.OwnWalkIn
import Derived.TacticsInMore
import Derived.LoopNIn
import Derived.LoopIn
import Derived.SliceStrings
import Derived.SizedLaws
/- Small laws on worlds, rows and bounds that the walks of this seat share. Conditions: none. -/
namespace Go.Proofs.YtfiplhnplmadmaaDoor
open Go.RowKit

theorem ret_int {k : IntKind} {a b : Int} (h : a = b) : Ending.returned (.int k a) = .returned (.int k b) := by rw [h]
/-- One new cell, at its block's head. -/
theorem one_cell (w : World) (v : Value) (T : TypeId) : ∀ (j : Nat) u, [v][j]? = some u → (w.alloc (.cells #[v] T)).cell? ((⟨w.heap.size, 0, none⟩ : Addr).add j) = some u := by
  intro j u hj
  match j, hj with
  | 0, hj => simp at hj; subst hj; rw [Addr.add_lit, World.cell?_alloc_mark]; rfl
/-- A row of a world is a row of what comes behind it. -/
theorem row_below {B : Nat} {e : TypeId} {k : Nat} {v : Value} {n : Nat} {xs : List Value} {w w' : World} (h : w.ownsRow B e k v n xs) (hb : Below w.heap.size w w') : w'.ownsRow B e k v n xs := by
  obtain ⟨h1, h2⟩ := h
  refine ⟨h1, ?_⟩
  rcases h2 with h2 | ⟨g, cap, cur, hv, hg, hh, r⟩
  · exact Or.inl h2
  · exact Or.inr ⟨g, cap, cur, hv, hg, by rw [hb.block g (Array.getElem?_eq_some_iff.1 hh).1]; exact hh, r⟩
/-- An owned row of cells of one value each, as a slice: its cells. -/
theorem row_view {w : World} {B : Nat} {e : TypeId} {v : Value} {n : Nat} {xs : List Value} (h : w.ownsRow B e 1 v n xs) :
    ∃ ao c, v = .slice ao n c ∧ n ≤ 9223372036854775807 ∧ ∀ j, j < n → ∃ g, ao = some ⟨g, 0, none⟩ ∧ B ≤ g ∧ w.cell? ⟨g, j, none⟩ = xs[j]? := by
  rcases h.2 with ⟨hv, hn⟩ | ⟨g, cap, cur, hv, hg, _⟩
  · subst hn; exact ⟨none, 0, hv, by omega, fun j hj => absurd hj (by omega)⟩
  · subst hv
    obtain ⟨_, hnc, hcm, _⟩ := ‹_ ∧ _ ∧ _ ∧ _›
    exact ⟨_, _, rfl, by unfold maxLen at hcm; omega, fun j hj => ⟨g, rfl, hg, h.cellAt j (by omega)⟩⟩
theorem below_draws {B : Nat} {w w' : World} (h : Below B w w') (n : Nat) : Below B w (w'.drewN n) := ⟨h.os, h.tape, h.output, h.size, h.block⟩
/-- A cell of a world, read behind it. -/
theorem cell_below {w w' : World} (h : Below w.heap.size w w') {a : Addr} {v : Value} (hc : w.cell? a = some v) : w'.cell? a = some v :=
  (h.cell (World.block_lt_of_cell? w a hc)).trans hc
end Go.Proofs.YtfiplhnplmadmaaDoor

/- Steps of a walk over known slots: what a frame's slots hold is kept as a list; each operation, branch and loop by one law. Conditions: none. -/
namespace Go.Proofs.YtfiplhnplmadmaaDoor
open Go.RowKit

section
variable {P : Program} {n : Nat} {m : List (Nat × Value)} {a : Act} {w : World}

/-- What is known of a frame: its size, that nothing is deferred, what some of its slots hold. -/
structure Slots (n : Nat) (m : List (Nat × Value)) (a : Act) : Prop where
  size : a.tmps.size = n
  defers : a.defers = []
  look : ∀ t v, m.lookup t = some v → a.tmps.getD t undef = v

def ev (m : List (Nat × Value)) : Operand → Option Value
  | .tmp t => m.lookup t
  | .const v => some v
  | .global g => some (.pointer (some ⟨g, 0, none⟩))
  | .func f => some (.func (.func f) #[] #[])
theorem Slots.ev (h : Slots n m a) {x : Operand} {v : Value} (hx : ev m x = some v) : a.eval x = v := by
  cases x with
  | tmp t => exact h.look t v hx
  | const u => simpa [Go.Proofs.YtfiplhnplmadmaaDoor.ev, Act.eval] using hx
  | global g => simpa [Go.Proofs.YtfiplhnplmadmaaDoor.ev, Act.eval] using hx
  | func f => simpa [Go.Proofs.YtfiplhnplmadmaaDoor.ev, Act.eval] using hx
def lk (m : List (Nat × Value)) (x : Operand) : Value := (ev m x).getD undef
def okOps (m : List (Nat × Value)) (o : Op) : Bool := o.operands.all fun x => (ev m x).isSome
theorem Slots.lk (h : Slots n m a) {x : Operand} (hx : (Go.Proofs.YtfiplhnplmadmaaDoor.ev m x).isSome = true) : a.eval x = lk m x := by
  obtain ⟨v, hv⟩ := Option.isSome_iff_exists.1 hx
  rw [h.ev hv]; simp [Go.Proofs.YtfiplhnplmadmaaDoor.lk, hv]
theorem Slots.put {d : Nat} {v : Value} (h : Slots n m a) (hd : d < n) : Slots n ((d, v) :: m) (a.put (some d) v) := by
  obtain ⟨h1, h2, h3⟩ := h
  refine ⟨by simp [Act.put, h1], h2, fun t u ht => ?_⟩
  rw [List.lookup_cons] at ht
  by_cases e : t = d
  · subst e
    simp at ht
    subst ht
    simp [Act.put, h1, hd]
  · have : (t == d) = false := by simpa using e
    rw [this] at ht
    have := h3 t u ht
    simp only [Act.put, Array.getD_eq_getD_getElem?] at this ⊢
    rw [Array.getElem?_setIfInBounds_ne (by omega)]
    exact this
/-- Less is known. -/
def Sub (m : List (Nat × Value)) : List (Nat × Value) → Prop
  | [] => True
  | p :: r => m.lookup p.1 = some p.2 ∧ Sub m r
theorem Sub.get {m : List (Nat × Value)} : ∀ {l : List (Nat × Value)}, Sub m l → ∀ t v, l.lookup t = some v → m.lookup t = some v
  | [], _, t, v, h => by simp at h
  | p :: r, hs, t, v, h => by
    rw [List.lookup_cons] at h
    by_cases e : t = p.1
    · subst e; simp at h; subst h; exact hs.1
    · have : (t == p.1) = false := by simpa using e
      rw [this] at h
      exact hs.2.get t v h
theorem Slots.sub {l : List (Nat × Value)} (h : Slots n m a) (hs : Sub m l) : Slots n l a := ⟨h.size, h.defers, fun t v ht => h.look t v (hs.get t v ht)⟩
theorem Slots.none {dst : Option Tmp} {v : Value} (h : Slots n m a) (hd : dst = none) : Slots n m (a.put dst v) := by subst hd; exact h

/-- Operation o, in a frame of which m is known and in world w: its value and the world behind it. -/
def Op1 (P : Program) (n : Nat) (m : List (Nat × Value)) (o : Oper) (w : World) (R : Value → World → Prop) : Prop :=
  ∀ a, Slots n m a → ∀ (N : Act → World → Prop) (Q : Exit → Act → World → Prop), (∀ v w', R v w' → N (a.put o.dst v) w') → o.wp P a w N Q

variable {o : Oper} {ops : Array Oper} {rest : List Oper} {Q : Exit → Act → World → Prop} {R : Value → World → Prop}
theorem op_run {v : Value} {w' : World} (hok : okOps m o.op = true) (hsel : (match o.op with | .select .. => true | _ => false) = false) (hrun : (execOp (lk m) o).run P w = .ok (.value v) w') : Op1 P n m o w (fun u x => u = v ∧ x = w') := by
  intro a ha N Q h
  have he : execOp a.eval o = execOp (lk m) o := execOp_congr o (fun cs b e => by simp [e] at hsel) (fun x hx => ha.lk (Array.all_eq_true_iff_forall_mem.1 hok x hx))
  unfold Oper.wp
  rw [he, hrun]
  exact h _ _ ⟨rfl, rfl⟩
theorem Op1.mono {R' : Value → World → Prop} (h : Op1 P n m o w R) (hr : ∀ v w', R v w' → R' v w') : Op1 P n m o w R' := fun a ha N Q hN => h a ha N Q fun v w' hv => hN v w' (hr v w' hv)
/-- A call of a Go function. -/
theorem op_call {c : Call} {x : Operand} {f : FuncId} {args : Array Value} {E : Ending → World → Prop} (ho : o.op = .call c) (hc : c.callee = .value x) (hf : ev m x = some (.func (.func f) #[] #[]))
    (hok : okOps m o.op = true) (hargs : c.args.map (lk m) = args) (hcall : (callFunc f args).run P w = .ok (.enter f args) w) (h : Calls P f args w E) (hE : ∀ e w', E e w' → ∃ v, e = .returned v ∧ R v w') : Op1 P n m o w R := by
  intro a ha N Q hN
  have he : execOp a.eval o = execOp (lk m) o := execOp_congr o (fun cs b e => by simp [e] at ho) (fun x hx => ha.lk (Array.all_eq_true_iff_forall_mem.1 hok x hx))
  unfold Oper.wp
  rw [he]
  have hfx : lk m x = .func (.func f) #[] #[] := by simp [lk, hf]
  have : (execOp (lk m) o).run P w = .ok (.enter f args) w := by
    simp only [execOp, ho, resolve, hc, hfx, Deferred.ofValue, hargs, Sem.run_bind, Sem.run_pure, Result.andThen_ok, invoke]
    simpa using hcall
  rw [this, Oper.upon_enter]
  refine h.mono fun e w' he => ?_
  obtain ⟨v, rfl, hv⟩ := hE e w' he
  exact hN v w' hv
theorem lk_ev {x : Operand} {v : Value} (hx : ev m x = some v) : lk m x = v := by simp [lk, hx]
/-- One cell is loaded. -/
theorem rn_load1 {t : TypeId} {x : Operand} {p : Addr} {v : Value} (ho : o.op = .load t x) (hx : ev m x = some (.pointer (some p))) (ht : ∀ w : World, (isAgg t).run P w = .ok false w) (hc : w.cell? p = some v) : (execOp (lk m) o).run P w = .ok (.value v) w := by
  unfold execOp
  have hl : (Instr.loadAt t (.pointer (some p))).run P w = .ok v w := by
    simp [Instr.loadAt, Instr.sureAddr, loadVar, ht, Sem.run_bind, load, Sem.run, hc]
  simp only [ho, lk_ev hx, Sem.run_bind, hl, Result.andThen_ok, Sem.run_pure]
/-- Several cells are loaded. -/
theorem rn_loadN {t : TypeId} {x : Operand} {b o' : Nat} {cs : List Value} {d : TypeDesc} (ho : o.op = .load t x) (hx : ev m x = some (.pointer (some ⟨b, o', none⟩))) (hu : P.underlying t = some d) (hd : d.isRow = true) (hi : (P.info? t).map (·.size) = some cs.length) (hc : w.rangeAt b o' cs) : (execOp (lk m) o).run P w = .ok (.value (.agg cs.toArray)) w := by
  unfold execOp
  simp only [ho, lk_ev hx, Instr.loadAt, Instr.sureAddr, Sem.run_bind, Sem.run_pure, Result.andThen_ok, run_loadVar_mid w b o' t cs d hc hu hd hi]
section minmax
variable {ts : Array TypeId} {x y : Operand} {k : IntKind} {i j : Int}
end minmax

/-! ### A plain region -/
theorem pl_nil (h : Q .normal a w) : wpList P ops Q [] a w := h
theorem getD_some {tmps : Array Value} {t : Nat} {b : Bool} (h : tmps.getD t undef = .bool b) : tmps[t]? = some (.bool b) := by
  rw [Array.getD_eq_getD_getElem?] at h
  cases hx : tmps[t]? with
  | none => rw [hx] at h; simp [undef] at h
  | some u => rw [hx] at h; simp at h; rw [h]
/-- Is a guarded operation wanted? -/
def wantB (m : List (Nat × Value)) (ops : Array Oper) (o : Oper) : Option Bool :=
  match o.guard with
  | none => some true
  | some (g, b) => match ((ops[g]?).bind (·.dst)).bind (m.lookup ·) with
    | some (.bool c) => some (c == b)
    | some (.tuple _) => some false
    | _ => none
theorem Slots.wants {c : Bool} (hs : Slots n m a) (h : wantB m ops o = some c) : Region.wanted o (yielded ops a.tmps) = c := by
  unfold wantB at h
  unfold Region.wanted
  cases hg : o.guard with
  | none => rw [hg] at h; simpa using h
  | some p =>
    obtain ⟨g, b⟩ := p
    rw [hg] at h
    simp only at h ⊢
    cases hd : (ops[g]?).bind (·.dst) with
    | none => rw [hd] at h; simp at h
    | some d =>
      rw [hd] at h
      simp only [Option.bind_some] at h
      cases hm : m.lookup d with
      | none => rw [hm] at h; simp at h
      | some u =>
        rw [hm] at h
        cases u <;> simp at h
        · rename_i q
          have := getD_some (hs.look d _ hm)
          simp [yielded, hd, this, h]
        · rename_i q
          subst h
          have h1 := hs.look d _ hm
          rw [Array.getD_eq_getD_getElem?] at h1
          have h2 : yielded ops a.tmps g = Option.none := by
            unfold yielded
            rw [hd]
            simp only [Option.bind_some]
            cases hx : a.tmps[d]? with
            | none => rfl
            | some u => rw [hx] at h1; simp at h1; subst h1; rfl
          rw [h2]; rfl
theorem pl_want {d : Nat} (hs : Slots n m a) (hg : wantB m ops o = some true) (hd : o.dst = some d) (hdn : Nat.blt d n = true) (h1 : Op1 P n m o w R)
    (h : ∀ v w' a', R v w' → Slots n ((d, v) :: m) a' → wpList P ops Q rest a' w') : wpList P ops Q (o :: rest) a w :=
  wpList_step fun K hK => by
    rw [if_pos (hs.wants hg)]
    exact h1 a hs K Q fun v w' hv => hK _ _ (h v w' _ hv (by rw [hd]; exact hs.put (by simpa using hdn)))
theorem pl_doW (hs : Slots n m a) (hg : wantB m ops o = some true) (hd : o.dst = none) (h1 : Op1 P n m o w R)
    (h : ∀ v w' a', R v w' → Slots n m a' → wpList P ops Q rest a' w') : wpList P ops Q (o :: rest) a w :=
  wpList_step fun K hK => by
    rw [if_pos (hs.wants hg)]
    exact h1 a hs K Q fun v w' hv => hK _ _ (h v w' _ hv (hs.none hd))
theorem pl_skip {d : Nat} (hs : Slots n m a) (hg : wantB m ops o = some false) (hd : o.dst = some d) (hdn : Nat.blt d n = true)
    (h : ∀ a', Slots n ((d, undef) :: m) a' → wpList P ops Q rest a' w) : wpList P ops Q (o :: rest) a w :=
  wpList_step fun K hK => by
    rw [if_neg (by simp [hs.wants hg])]
    exact hK _ _ (h _ (by rw [hd]; exact hs.put (by simpa using hdn)))

/-- An operation that leaves the world as it is. -/
theorem pl_val {d : Nat} {v : Value} (hs : Slots n m a) (hg : wantB m ops o = some true) (hd : o.dst = some d) (hdn : Nat.blt d n = true) (hok : okOps m o.op = true) (hsel : (match o.op with | .select .. => true | _ => false) = false) (hrun : (execOp (lk m) o).run P w = .ok (.value v) w)
    (h : ∀ a', Slots n ((d, v) :: m) a' → wpList P ops Q rest a' w) : wpList P ops Q (o :: rest) a w :=
  pl_want hs hg hd hdn (op_run hok hsel hrun) fun _ _ a' ⟨h1, h2⟩ hs' => by subst h1 h2; exact h a' hs'
/-! ### A region that draws its order -/
variable {md : Region.Mode} {S : World → Prop} {fuel : Nat} {listed : Array Bool} {i d : Nat}
abbrev NP (Q : Exit → Act → World → Prop) := NoPanic Q
theorem dr_start {id : Nat} {l : List Oper} (hm : P.follows .mixedOrders = true) (hS : S w.drew) (h : wpAnyH P .any l.toArray (NP Q) S l.length (Array.replicate l.length false) a w.drew) : (Code.region id l.toArray true).wp P Q a w :=
  wp_region_noPanic (wp_region_held_drew (S := S) hm hS fun _ => by simpa using h)
/-- Number i, which yields v in every world that meets S, is taken first. -/
theorem dr_take {v : Value} (hs : Slots n m a) (ho : ops[i]? = some o) (hsel : Region.noSelect ops = true) (hf : Region.free md ops listed i = true) (hr : (Region.ready md ops listed).contains i = true)
    (hw : wantB m ops o = some true) (hd : o.dst = some d) (hdn : Nat.blt d n = true) (hS : S w) (hok : okOps m o.op = true) (hrun : ∀ w, S w → (execOp (lk m) o).run P w = .ok (.value v) w)
    (h : ∀ a', Slots n ((d, v) :: m) a' → wpAnyH P md ops (NP Q) S fuel (listed.setIfInBounds i true) a' w) : wpAnyH P md ops (NP Q) S (fuel + 1) listed a w := by
  have he : execOp a.eval o = execOp (lk m) o := execOp_congr o (fun cs b e => Region.noSelect_spec hsel i o cs b ho e) (fun x hx => hs.lk (Array.all_eq_true_iff_forall_mem.1 hok x hx))
  refine wpAnyH_take ho hsel hf hr (fun _ _ _ h => h) (Or.inl ⟨hs.wants hw, fun w' hw' => by rw [he]; exact hrun w' hw'⟩) hS ?_
  exact h _ (by rw [hd]; exact hs.put (by simpa using hdn))
/-- Number i alone may come up. -/
theorem dr_one (hs : Slots n m a) (ho : ops[i]? = some o) (hr : Region.ready md ops listed = [i]) (hw : wantB m ops o = some true) (hd : o.dst = some d) (hdn : Nat.blt d n = true) (h1 : Op1 P n m o w R) (hS : ∀ v w', R v w' → S w')
    (h : ∀ v w' a', R v w' → Slots n ((d, v) :: m) a' → wpAnyH P md ops (NP Q) S fuel (listed.setIfInBounds i true) a' w') : wpAnyH P md ops (NP Q) S (fuel + 1) listed a w := by
  refine wpAnyH_all hr (by simp) fun j hj => ?_
  simp only [List.mem_singleton] at hj
  subst hj
  unfold wpOp
  simp only [ho, hs.wants hw, if_true]
  exact .inl (h1 a hs _ _ fun v w' hv => ⟨hS v w' hv, h v w' _ hv (by rw [hd]; exact hs.put (by simpa using hdn))⟩)
theorem dr_oneDo (hs : Slots n m a) (ho : ops[i]? = some o) (hr : Region.ready md ops listed = [i]) (hw : wantB m ops o = some true) (hd : o.dst = none) (h1 : Op1 P n m o w R) (hS : ∀ v w', R v w' → S w')
    (h : ∀ v w' a', R v w' → Slots n m a' → wpAnyH P md ops (NP Q) S fuel (listed.setIfInBounds i true) a' w') : wpAnyH P md ops (NP Q) S (fuel + 1) listed a w := by
  refine wpAnyH_all hr (by simp) fun j hj => ?_
  simp only [List.mem_singleton] at hj
  subst hj
  unfold wpOp
  simp only [ho, hs.wants hw, if_true]
  exact .inl (h1 a hs _ _ fun v w' hv => ⟨hS v w' hv, h v w' _ hv (hs.none hd)⟩)
theorem dr_done (hr : Region.ready md ops listed = []) (h : Q .normal a w) : wpAnyH P md ops (NP Q) S fuel listed a w := wpAnyH_done hr (NoPanic.normal h) fuel

/-! ### Code -/
theorem co_seq {x y : Code} (h : x.wp P (Exit.then (y.wp P Q) Q) a w) : (Code.seq x y).wp P Q a w := wp_seq h
theorem co_reg {id : Nat} {l : List Oper} (h : wpList P l.toArray Q l a w) : (Code.region id l.toArray false).wp P Q a w := wp_region_lit h
theorem co_then {K : Act → World → Prop} (h : K a w) : Exit.then K Q .normal a w := h
theorem co_true {c : Operand} {x y : Code} (hs : Slots n m a) (hc : ev m c = some (.bool true)) (h : x.wp P Q a w) : (Code.cond c x y).wp P Q a w := wp_cond_true (hs.ev hc) h
theorem co_false {c : Operand} {x y : Code} (hs : Slots n m a) (hc : ev m c = some (.bool false)) (h : y.wp P Q a w) : (Code.cond c x y).wp P Q a w := wp_cond_false (hs.ev hc) h
theorem co_loop {c : Code} (I : Nat → Act → World → Prop) (k : Nat) (h₀ : I k a w) (round : ∀ k a w, I k a w → c.wp P (Exit.then (fun a' w' => ∃ k', k' < k ∧ I k' a' w') Q) a w) : (Code.loop c).wp P Q a w := wp_loop_ghost I k h₀ round
theorem co_thenX {K : Act → World → Prop} {i : Nat} (h : Q (.exit i) a w) : Exit.then K Q (.exit i) a w := h
theorem co_thenR {K : Act → World → Prop} (h : Q .ret a w) : Exit.then K Q .ret a w := h
theorem co_blockN {i : Nat} (h : Q .normal a w) : Exit.inBlock i Q .normal a w := h
theorem co_blockX {i : Nat} (h : Q .normal a w) : Exit.inBlock i Q (.exit i) a w := by simpa [Exit.inBlock] using h
/-- The call begins. -/
theorem co_enter {f : FuncId} {fn : Func} {c : Code} {args : Array Value} {E : Ending → World → Prop} (hf : P.funcs[f]? = some fn) (hb : fn.body = some c) (hn : fn.ntmps = n) (hl : Nat.ble args.size n = true) (m : List (Nat × Value)) (hm : m = args.toList.zipIdx.map fun p => (p.2, p.1))
    (h : ∀ a, Slots n m a → c.wp P (bodyPost P fn E) a w) : Calls P f args w E := by
  have hl := Nat.le_of_ble_eq_true hl
  refine calls_of_wp hf hb (h _ ⟨by simp [hn]; omega, rfl, fun t v ht => ?_⟩)
  subst hm
  have hlk : ∀ (l : List Value) (k t : Nat) v, ((l.zipIdx k).map fun p => (p.2, p.1)).lookup t = some v → k ≤ t ∧ l[t - k]? = some v := by
    intro l
    induction l with
    | nil => intro k t v h; simp at h
    | cons x l ih =>
      intro k t v h
      rw [List.zipIdx_cons, List.map_cons, List.lookup_cons] at h
      by_cases e : t = k
      · subst e; simp at h; subst h; simp
      · have hb : (t == k) = false := by simpa using e
        rw [hb] at h
        obtain ⟨h1, h2⟩ := ih (k + 1) t v h
        refine ⟨by omega, ?_⟩
        rw [show t - k = (t - (k + 1)) + 1 by omega, List.getElem?_cons_succ]; exact h2
  obtain ⟨_, h2⟩ := hlk _ 0 t v ht
  simp only [Nat.sub_zero, Array.getElem?_toList] at h2
  rw [Array.getD_eq_getD_getElem?, Array.getElem?_append_left (Array.getElem?_eq_some_iff.1 h2).1, h2]; rfl
/-- The call ends. -/
theorem co_ret1 {fn : Func} {E : Ending → World → Prop} {t : Nat} {v : Value} (hs : Slots n m a) (hr : fn.results = #[.tmp t]) (ht : m.lookup t = some v) (h : E (.returned v) w) : bodyPost P fn E .ret a w := by
  have := hs.look t v ht
  exact bodyPost_ret (results_tmp hr a.tmps P w) hs.defers (by rw [this]; exact h)
theorem co_ret2 {fn : Func} {E : Ending → World → Prop} {t u : Nat} {v x : Value} (hs : Slots n m a) (hr : fn.results = #[.tmp t, .tmp u]) (ht : m.lookup t = some v) (hu : m.lookup u = some x) (h : E (.returned (.tuple #[v, x])) w) : bodyPost P fn E .ret a w := by
  have h1 := hs.look t v ht
  have h2 := hs.look u x hu
  exact bodyPost_ret (results_tmp2 hr a.tmps P w) hs.defers (by rw [h1, h2]; exact h)
theorem co_ret3 {fn : Func} {E : Ending → World → Prop} {t u r : Nat} {v x y : Value} (hs : Slots n m a) (hr : fn.results = #[.tmp t, .tmp u, .tmp r]) (ht : m.lookup t = some v) (hu : m.lookup u = some x) (hy : m.lookup r = some y) (h : E (.returned (.tuple #[v, x, y])) w) : bodyPost P fn E .ret a w := by
  have h1 := hs.look t v ht
  have h2 := hs.look u x hu
  have h3 := hs.look r y hy
  have hrun : (results fn a.tmps).run P w = .ok (.tuple #[v, x, y]) w := by simp [results, hr, ← h1, ← h2, ← h3]
  exact bodyPost_ret hrun hs.defers h
end
end Go.Proofs.YtfiplhnplmadmaaDoor

/- Slices that are read, whatever their elements: their cells; a struct that is loaded out of one; an append from one. Conditions: none. -/
namespace Go.Proofs.YtfiplhnplmadmaaDoor
open Go.RowKit

/-- The slice v reads as the list l: each element's cells are what enc says, sz of them. -/
def SliceOf {α : Type} (enc : α → List Value) (sz : Nat) (w : World) (v : Value) (l : List α) : Prop :=
  ∃ ao cap, v = .slice ao l.length cap ∧ l.length ≤ cap ∧ cap ≤ 9223372036854775807 ∧ (ao = none → l.length = 0 ∧ cap = 0) ∧
    ∀ j (h : j < l.length), ∃ b off, ao = some ⟨b, off, none⟩ ∧ w.rangeAt b (off + j * sz) (enc l[j])

theorem SliceOf.below {α : Type} {enc : α → List Value} {sz : Nat} {w w' : World} {v : Value} {l : List α} (h : SliceOf enc sz w v l) (hb : Below w.heap.size w w') : SliceOf enc sz w' v l := by
  obtain ⟨ao, cap, hv, h1, h2, h3, h4⟩ := h
  refine ⟨ao, cap, hv, h1, h2, h3, fun j hj => ?_⟩
  obtain ⟨b, off, e, hr⟩ := h4 j hj
  exact ⟨b, off, e, fun i u hu => cell_below hb (hr i u hu)⟩
theorem SliceOf.nil {α : Type} (enc : α → List Value) (sz : Nat) (w : World) : SliceOf enc sz w (.slice none 0 0) ([] : List α) :=
  ⟨none, 0, rfl, by simp, by omega, fun _ => ⟨rfl, rfl⟩, fun j hj => absurd hj (by simp)⟩
/-- One integer a cell. -/
def intE (k : IntKind) (n : Int) : List Value := [.int k n]
/-- The cells of rows of one size, one behind the other. -/
theorem flat_at {α : Type} {enc : α → List Value} {size : Nat} : ∀ (l : List α) (q r : Nat) (hql : q < l.length), (∀ y ∈ l, (enc y).length = size) → r < size → (l.flatMap enc)[q * size + r]? = (enc l[q])[r]?
  | [], q, r, hql, _, _ => absurd hql (by simp)
  | y :: l, 0, r, _, hy, hr => by
    rw [List.flatMap_cons, Nat.zero_mul, Nat.zero_add, List.getElem?_append_left (by rw [hy y (by simp)]; exact hr)]; rfl
  | y :: l, q + 1, r, hql, hy, hr => by
    rw [List.flatMap_cons, List.getElem?_append_right (by rw [hy y (by simp), Nat.add_mul]; omega), hy y (by simp), show (q + 1) * size + r - size = q * size + r by rw [Nat.add_mul]; omega]
    exact flat_at l q r (by simpa using hql) (fun z hz => hy z (by simp [hz])) hr
theorem flat_len {α : Type} {enc : α → List Value} {size : Nat} : ∀ (l : List α), (∀ y ∈ l, (enc y).length = size) → (l.flatMap enc).length = l.length * size
  | [], _ => by simp
  | y :: l, hy => by rw [List.flatMap_cons, List.length_append, hy y (by simp), flat_len l (fun z hz => hy z (by simp [hz])), List.length_cons, Nat.add_mul]; omega
/-- A row of the call's own. -/
theorem SliceOf.own {α : Type} {enc : α → List Value} {sz : Nat} {w : World} {B : Nat} {e : TypeId} {v : Value} {l : List α} (h : w.ownsRow B e sz v l.length (l.flatMap enc)) (hsz : ∀ x ∈ l, (enc x).length = sz) : SliceOf enc sz w v l := by
  rcases h.2 with ⟨hv, hn⟩ | ⟨g, cap, cur, hv, hg, _, hnc, hcm, _⟩
  · obtain rfl : l = [] := List.eq_nil_of_length_eq_zero hn
    rw [hv]; exact SliceOf.nil _ _ _
  · refine ⟨some ⟨g, 0, none⟩, cap, hv, hnc, by unfold maxLen at hcm; omega, fun h => by (cases h), fun j hj => ⟨g, 0, rfl, fun i u hu => ?_⟩⟩
    have hi : i < sz := by rw [← hsz _ (List.getElem_mem hj)]; exact (List.getElem?_eq_some_iff.1 hu).1
    have hlt : j * sz + i < l.length * sz := by
      have : (j + 1) * sz ≤ l.length * sz := Nat.mul_le_mul_right _ hj
      rw [Nat.add_mul] at this; omega
    have hc := h.cells (g := g) (by rw [hv]; rfl) (j * sz + i) u
    rw [Addr.add_lit] at hc
    rw [Nat.zero_add]; rw [Nat.zero_add] at hc
    exact hc (by rw [flat_at l j i hj hsz hi]; exact hu)

/-- 'append(out, src...)', out the call's own, src any slice that reads as news: nil, empty or not. -/
theorem wpList_append_src {P : Program} {w : World} {ops : Array Oper} {rest : List Oper} {o : Oper} {a : Act} {Q : Exit → Act → World → Prop} (hgd : o.guard = none) (s x : Operand) (t : TypeId)
    (ho : o.op = .call { callee := .builtin .append, args := #[s, x], argTypes := #[t, t] })
    (base : Nat) (e : TypeId) (i : TypeInfo) (z : Value) (size bytes : Nat) (ht : P.underlying t = some (.slice e)) (hi : P.info? e = some i) (hz : i.zero = some z)
    (hsize : i.size = size) (hby : i.bytes = bytes) (hzs : z.cells.size = size) (hsz : 0 < size)
    (v : Value) (n : Nat) (xs : List Value) (hs : a.eval s = v) (hown : w.ownsRow base e size v n xs)
    {α : Type} (enc : α → List Value) (l : List α) (vs : Value) (hx : a.eval x = vs) (hsl : SliceOf enc size w vs l) (hen : ∀ y ∈ l, (enc y).length = size ∧ ∀ u ∈ enc y, u.oneCell' = true)
    (h63 : n + l.length ≤ maxLen) (hbytes : (n + l.length) * bytes ≤ 140737488355328) (hbase : base ≤ w.heap.size)
    (h : ∀ v' w', w'.ownsRow base e size v' (n + l.length) (xs ++ l.flatMap enc) → w.grownBy w' v.ownBlock → wpList P ops Q rest (a.put o.dst v') w') : wpList P ops Q (o :: rest) a w := by
  obtain ⟨ao, cap, rfl, _, _, hnil, hcell⟩ := hsl
  have hl := flat_len l (fun y hy => (hen y hy).1)
  cases ao with
  | none =>
    obtain ⟨e0, e1⟩ := hnil rfl
    obtain rfl : l = [] := List.eq_nil_of_length_eq_zero e0
    subst e1
    exact wpList_append_own_none hgd s x t ho base e i size ht hi v n xs hs hown (by simpa using hx) (h v w (by simpa using hown) (World.grownBy.refl _ _))
  | some ad =>
    refine wpList_append_own _ hgd s x t ho base e i z size bytes ht hi hz hsize hby hzs hsz v n xs hs hown ad l.length cap (l.flatMap enc) hx hl ?_ ?_ h63 hbytes hbase (fun v' w' h1 h2 _ => h v' w' h1 h2)
    · intro j u hu
      have hj : j < l.length * size := by rw [← hl]; exact (List.getElem?_eq_some_iff.1 hu).1
      have hq : j / size < l.length := Nat.div_lt_of_lt_mul (by rw [Nat.mul_comm]; exact hj)
      obtain ⟨b, off, hb, hr⟩ := hcell _ hq
      cases hb
      rw [Addr.add_lit]
      have hdm : j / size * size + j % size = j := by rw [Nat.mul_comm]; exact Nat.div_add_mod j size
      have hr' := hr (j % size) u
      rw [Nat.add_assoc, hdm] at hr'
      refine hr' ?_
      rw [← flat_at l (j / size) (j % size) hq (fun y hy => (hen y hy).1) (Nat.mod_lt _ hsz), hdm]; exact hu
    · intro u hu
      obtain ⟨y, hy, huy⟩ := List.mem_flatMap.1 hu
      exact (hen y hy).2 u huy
end Go.Proofs.YtfiplhnplmadmaaDoor

/- Steps of a walk over known slots: blocks of the call's own, rows that grow, slices that came in. Conditions: none. -/
namespace Go.Proofs.YtfiplhnplmadmaaDoor
open Go.RowKit

/-- Block N of world w holds just these cells, and may be written. -/
def Blk (w : World) (N : Nat) (T : TypeId) (cs : Array Value) : Prop := w.heap[N]? = some (.cells cs T (0, 0))
section
variable {P : Program} {n : Nat} {m : List (Nat × Value)} {w x : World} {o : Oper} {N : Nat} {T : TypeId} {cs : Array Value}
theorem Blk.lt (h : Blk w N T cs) : N < w.heap.size := (Array.getElem?_eq_some_iff.1 h).1
theorem Blk.cell (h : Blk w N T cs) {k : Nat} {v : Value} (hk : cs[k]? = some v) : w.cell? ⟨N, k, none⟩ = some v := by
  unfold World.cell?; rw [show w.heap[N]? = _ from h]; simpa using hk
theorem Blk.frozen (h : Blk w N T cs) (k : Nat) : w.frozen? ⟨N, k, none⟩ = false := by
  unfold World.frozen?; rw [show w.heap[N]? = _ from h]; simp
theorem Blk.range (h : Blk w N T cs) (k : Nat) (l : List Value) (hl : ∀ j v, l[j]? = some v → cs[k + j]? = some v) : w.rangeAt N k l := fun j v hv => h.cell (hl j v hv)
theorem Blk.all (h : Blk w N T cs) : w.rangeAt N 0 cs.toList := fun j v hv => h.cell (by simpa using hv)
theorem Blk.kept {row : Option Nat} (h : Blk w N T cs) (hg : w.grownBy x row) (hne : row ≠ some N) : Blk x N T cs := by
  unfold Blk at *; rw [hg.block N (Array.getElem?_eq_some_iff.1 h).1 (fun e => hne e.symm)]; exact h
theorem Blk.below (h : Blk w N T cs) (hb : Below w.heap.size w x) : Blk x N T cs := by
  unfold Blk at *; rw [hb.block N (Array.getElem?_eq_some_iff.1 h).1]; exact h
theorem grown_below (hg : w.grownBy x none) : Below w.heap.size w x := ⟨hg.os, hg.tape, hg.output, hg.size, fun k hk => hg.block k hk (by simp)⟩
theorem below_grown (hb : Below w.heap.size w x) : w.grownBy x none := ⟨hb.os, hb.tape, hb.output, hb.size, fun k hk _ => hb.block k hk⟩
theorem hb_new {w0 : World} (h : Below w0.heap.size w0 w) (hg : w.grownBy x none) : Below w0.heap.size w0 x := h.grown hg h.size (fun _ e => by cases e)
theorem hb_call {w0 : World} (h : Below w0.heap.size w0 w) (hb : Below w.heap.size w x) : Below w0.heap.size w0 x := h.trans (hb.mono h.size)
theorem row_kept_new {B : Nat} {e : TypeId} {sz k : Nat} {v : Value} {xs : List Value} (h : w.ownsRow B e sz v k xs) (hg : w.grownBy x none) : x.ownsRow B e sz v k xs :=
  h.kept hg (by cases v.ownBlock <;> simp)
theorem row_kept_at {B : Nat} {e : TypeId} {sz k : Nat} {v : Value} {xs : List Value} (h : w.ownsRow B e sz v k xs) (hg : w.grownBy x (some N)) (hne : v.ownBlock ≠ some N) : x.ownsRow B e sz v k xs := h.kept hg (.inr hne)
/-- Rows of two types lie apart. -/
theorem row_kept_row {B B' : Nat} {e e' : TypeId} {sz sz' k k' : Nat} {v v' : Value} {xs ys : List Value} (h : w.ownsRow B e sz v k xs) (h' : w.ownsRow B' e' sz' v' k' ys) (hg : w.grownBy x v'.ownBlock) (hne : e ≠ e') : x.ownsRow B e sz v k xs := by
  refine h.kept hg ?_
  cases hv : v.ownBlock with
  | none => exact .inl rfl
  | some g =>
    refine .inr fun e1 => ?_
    rcases h.2 with ⟨rfl, _⟩ | ⟨g1, _, _, rfl, _, hg1, _⟩
    · simp [Value.ownBlock] at hv
    · rcases h'.2 with ⟨rfl, _⟩ | ⟨g2, _, _, rfl, _, hg2, _⟩
      · simp [Value.ownBlock] at e1
      · simp [Value.ownBlock] at hv e1
        subst hv
        rw [← e1, hg1] at hg2
        simp at hg2
        exact hne hg2.2
/-- A variable, a struct, an array that is made. -/
theorem op_new {v : Nat → Value} (hok : okOps m o.op = true) (hsel : (match o.op with | .select .. => true | _ => false) = false) (hrun : (execOp (lk m) o).run P w = .ok (.value (v w.heap.size)) (w.alloc (.cells cs T))) :
    Op1 P n m o w (fun u x => ∃ N, u = v N ∧ N = w.heap.size ∧ x.heap.size = N + 1 ∧ Blk x N T cs ∧ w.grownBy x none) :=
  (op_run hok hsel hrun).mono fun u x ⟨h1, h2⟩ => by
    subst h2
    exact ⟨w.heap.size, h1, rfl, by simp, heap_alloc_new w _, World.grownBy_alloc w _ none⟩
theorem setCell_blk (h : Blk w N T cs) (k : Nat) (v : Value) : Blk (w.setCell ⟨N, k, none⟩ v) N T (cs.setIfInBounds k v) := by
  have hlt := (Array.getElem?_eq_some_iff.1 h).1
  have hx := (Array.getElem?_eq_some_iff.1 h).2
  unfold Blk World.setCell
  simp only [Array.getElem?_modify, if_true]
  rw [show w.heap[N]? = _ from h]
  simp
theorem grown_setCell (w : World) (N k : Nat) (v : Value) : w.grownBy (w.setCell ⟨N, k, none⟩ v) (some N) := ⟨rfl, rfl, rfl, by simp [World.setCell], fun j _ hj => Below.heap_setCell w _ v j (fun e => hj (by rw [e]))⟩
/-- A store of one cell into a block of the call's own. -/
theorem op_store1 {t : TypeId} {p q : Operand} {k : Nat} {v : Value} (ho : o.op = .store t p q) (hp : ev m p = some (.pointer (some ⟨N, k, none⟩))) (hq : ev m q = some v) (h1 : v.oneCell' = true) (hs : ∀ w : World, (sizeOf t).run P w = .ok 1 w)
    (hb : Blk w N T cs) (hk : Nat.blt k cs.size = true) : Op1 P n m o w (fun _ x => Blk x N T (cs.setIfInBounds k v) ∧ x.heap.size = w.heap.size ∧ w.grownBy x (some N)) := by
  intro a ha K Q hN
  have hk' : k < cs.size := by simpa using hk
  have hc : w.cell? ⟨N, k, none⟩ = some cs[k] := hb.cell (by simp [hk'])
  have hcell : v.cells = #[v] := by cases v <;> simp_all [Value.cells, Value.oneCell']
  have hrun : (Instr.storeAt t (.pointer (some ⟨N, k, none⟩)) v).run P w = .ok () (w.setCell ⟨N, k, none⟩ v) := by
    have h2 := run_storeCells_cells (P := P) N k [v] 0 w (fun j hj => by simp at hj; subst hj; simp [hc]) (fun j hj => by simpa using hb.frozen _) (by simpa using h1)
    simp only [Nat.add_zero] at h2
    simp [Instr.storeAt, Instr.sureAddr, storeVar, hcell, hs, Sem.run_bind, h2, World.setCells]
  unfold Oper.wp execOp
  simp only [ho, ha.ev hp, ha.ev hq, Sem.run_bind, hrun, Result.andThen_ok, Sem.run_pure]
  exact hN _ _ ⟨setCell_blk hb k v, by simp [World.setCell], grown_setCell w N k v⟩
theorem setCells_blk : ∀ (vs : List Value) (w : World) (cs : Array Value) (k : Nat), Blk w N T cs → k + vs.length ≤ cs.size → Blk (w.setCells N k vs) N T (cs.toList.take k ++ vs ++ cs.toList.drop (k + vs.length)).toArray
  | [], w, cs, k, h, _ => by simpa [World.setCells] using h
  | v :: r, w, cs, k, h, hl => by
    simp only [List.length_cons] at hl
    have := setCells_blk r (w.setCell ⟨N, k, none⟩ v) (cs.setIfInBounds k v) (k + 1) (setCell_blk h k v) (by simp; omega)
    rw [World.setCells]
    have e : ((cs.setIfInBounds k v).toList.take (k + 1) ++ r ++ (cs.setIfInBounds k v).toList.drop (k + 1 + r.length)) = cs.toList.take k ++ (v :: r) ++ cs.toList.drop (k + (r.length + 1)) := by
      simp only [Array.toList_setIfInBounds]
      rw [List.take_set, List.drop_set_of_lt (by omega), show k + 1 + r.length = k + (r.length + 1) by omega]
      have : (List.take (k + 1) cs.toList).set k v = cs.toList.take k ++ [v] := by
        rw [List.take_succ_eq_append_getElem (by simp; omega)]
        have hl : (List.take k cs.toList).length = k := by simp; omega
        rw [List.set_append, hl, if_neg (by omega)]
        simp
      rw [this]; simp
    rw [List.length_cons, ← e]; exact this
/-- A store of a whole value into a block of the call's own. -/
theorem op_storeN {t : TypeId} {p q : Operand} {cells : Array Value} (ho : o.op = .store t p q) (hp : ev m p = some (.pointer (some ⟨N, 0, none⟩))) (hq : ev m q = some (.agg cells)) (h1 : cells.all (·.oneCell') = true) (hi : (P.info? t).map (·.size) = some cells.size)
    (hb : Blk w N T cs) (hk : cs.size = cells.size) : Op1 P n m o w (fun _ x => Blk x N T cells ∧ x.heap.size = w.heap.size ∧ w.grownBy x (some N)) := by
  intro a ha K Q hN
  have hthere : w.there N 0 cells.size := fun j hj => ⟨by rw [hb.cell (k := 0 + j) (v := cs[j]) (by simp [hk, hj])]; rfl, hb.frozen _⟩
  refine wp_store_mid t p q ho N 0 cells (ha.ev hp) (ha.ev hq) hthere hi h1 (hN _ _ ⟨?_, ?_, ?_⟩)
  · have := setCells_blk cells.toList w cs 0 hb (by simp [hk])
    have e : (cells.toList ++ List.drop cells.size cs.toList).toArray = cells := by rw [List.drop_eq_nil_of_le (by simp [hk])]; simp
    simp only [List.take_zero, List.nil_append, Nat.zero_add, Array.length_toList, e] at this
    exact this
  · have hsz : ∀ (vs : List Value) (k : Nat) (w : World), (w.setCells N k vs).heap.size = w.heap.size := by
      intro vs
      induction vs with
      | nil => intro k w; rfl
      | cons v r ih => intro k w; rw [World.setCells, ih]; simp [World.setCell]
    exact hsz _ _ _
  · have hg : ∀ (vs : List Value) (k : Nat) (w : World), w.grownBy (w.setCells N k vs) (some N) := by
      intro vs
      induction vs with
      | nil => intro k w; exact World.grownBy.refl _ _
      | cons v r ih => intro k w; rw [World.setCells]; exact (grown_setCell w N k v).trans (ih _ _)
    exact hg _ _ _
/-- 'append(v, news..)', v a row of the call's own. -/
theorem op_append {s q : Operand} {t : TypeId} (ho : o.op = .call { callee := .builtin .append, args := #[s, q], argTypes := #[t, t] })
    (base : Nat) (e : TypeId) {z : Value} {size bytes : Nat} (ht : P.underlying t = some (.slice e)) (hi : (P.info? e).map (fun i => (i.zero, i.size, i.bytes)) = some (some z, size, bytes))
    (hzs : z.cells.size = size) (hsz : Nat.blt 0 size = true) {v : Value} {k : Nat} {xs : List Value} (hs : ev m s = some v) (hown : w.ownsRow base e size v k xs)
    {M q' c : Nat} {ws : Array Value} {T' : TypeId} (hx : ev m q = some (.slice (some ⟨M, 0, none⟩) q' c)) (hb : Blk w M T' ws) (hl : ws.size = q' * size) (h1 : ws.all (·.oneCell') = true)
    (h63 : k + q' ≤ 9223372036854775807) (hbytes : (k + q') * bytes ≤ 140737488355328) (hbase : base ≤ w.heap.size) :
    Op1 P n m o w (fun u x => x.ownsRow base e size u (k + q') (xs ++ ws.toList) ∧ w.grownBy x v.ownBlock) := by
  intro a ha K Q hN
  obtain ⟨i0, hii, hz0, hz1, hz2⟩ := info_parts hi
  refine wp_append_own w s q t ho base e i0 z size bytes ht hii hz0 hz1 hz2 hzs (by simpa using hsz) v k xs (ha.ev hs) hown ⟨M, 0, none⟩ q' c ws.toList (ha.ev hx) (by simpa using hl) ?_ ?_ (by unfold maxLen; exact h63) hbytes hbase (fun v' w' h2 h3 _ => hN _ _ ⟨h2, h3⟩)
  · intro j u hu
    rw [Addr.add_lit, Nat.zero_add]
    exact hb.cell (by simpa using hu)
  · intro u hu
    exact (Array.all_eq_true_iff_forall_mem.1 h1) u (by simpa using hu)

/-! ### A region that draws its order begins -/
section
variable {Q : Exit → Act → World → Prop} {a : Act}
theorem drew_grown (w : World) : w.grownBy w.drew none := ⟨rfl, rfl, rfl, Nat.le_refl _, fun _ _ _ => rfl⟩
theorem dr_gen {id : Nat} {l : List Oper} (S : World → Prop) (hm : P.follows .mixedOrders = true) (hS : ∀ wd, w.grownBy wd none → S wd) (h : ∀ wd, w.grownBy wd none → wpAnyH P .any l.toArray (NP Q) S l.length (Array.replicate l.length false) a wd) : (Code.region id l.toArray true).wp P Q a w :=
  dr_start hm (hS _ (drew_grown w)) (h _ (drew_grown w))
end

/-! ### Slices that came in: the value is whatever it is, its place is told by two functions -/
def blkOf : Value → Nat
  | .slice (some a) _ _ => a.block
  | _ => 0
def offOf : Value → Nat
  | .slice (some a) _ _ => a.off
  | _ => 0
variable {α : Type} {enc : α → List Value} {sz : Nat} {v : Value} {l : List α}
theorem sl_len (h : SliceOf enc sz w v l) : l.length ≤ 9223372036854775807 := by obtain ⟨_, _, _, h1, h2, _⟩ := h; omega
theorem sl_at (h : SliceOf enc sz w v l) {i : Nat} {y : α} (hy : l[i]? = some y) : w.rangeAt (blkOf v) (offOf v + i * sz) (enc y) := by
  obtain ⟨ao, cap, rfl, _, _, _, hc⟩ := h
  obtain ⟨hi, e⟩ := List.getElem?_eq_some_iff.1 hy
  obtain ⟨b, off, rfl, hr⟩ := hc i hi
  rw [← e]; exact hr
theorem rn_lenOwn {t : TypeId} {q : Operand} {base : Nat} {e : TypeId} {k : Nat} {xs : List Value} (ho : o.op = .call { callee := .builtin .len, args := #[q], argTypes := #[t] }) (hq : ev m q = some v) {e' : TypeId} (ht : P.underlying t = some (.slice e')) (h : w.ownsRow base e sz v k xs) : (execOp (lk m) o).run P w = .ok (.value (.int .i64 (k : Nat))) w := by
  rcases h.2 with ⟨rfl, rfl⟩ | ⟨g, cap, cur, rfl, _⟩
  · unfold execOp
    simp [ho, resolve, invoke, builtin, Sem.run_bind, lk_ev hq, Builtin.len_, goInt, run_underlying ht]
  · unfold execOp
    simp [ho, resolve, invoke, builtin, Sem.run_bind, lk_ev hq, Builtin.len_, goInt, run_underlying ht]
theorem rn_lenStr {t : TypeId} {q : Operand} {s : ByteArray} (ho : o.op = .call { callee := .builtin .len, args := #[q], argTypes := #[t] }) (hq : ev m q = some (.string s)) (ht : P.underlying t = some .string) : (execOp (lk m) o).run P w = .ok (.value (.int .i64 (s.size : Nat))) w := by
  unfold execOp
  simp [ho, resolve, invoke, builtin, Sem.run_bind, lk_ev hq, Builtin.len_, goInt, run_underlying ht]
/-- 'v[i]' as an address -/
theorem rn_index {t e : TypeId} {q r : Operand} {k : IntKind} {i : Int} {j : Nat} (ho : o.op = .indexAddr t q r) (hq : ev m q = some v) (hr : ev m r = some (.int k i)) (ht : P.underlying t = some (.slice e)) (hs : ∀ w : World, (sizeOf e).run P w = .ok sz w)
    (h : SliceOf enc sz w v l) (hij : i = (j : Nat)) (hj : j < l.length) : (execOp (lk m) o).run P w = .ok (.value (.pointer (some ⟨blkOf v, offOf v + j * sz, none⟩))) w := by
  subst hij
  obtain ⟨ao, cap, rfl, _, _, _, hc⟩ := h
  obtain ⟨b, off, rfl, _⟩ := hc j hj
  have hrun : (Instr.indexAt t (.slice (some ⟨b, off, none⟩) l.length cap) (.int k j)).run P w = .ok (.pointer (some ⟨b, off + j * sz, none⟩)) w := by
    have h0 : (0 : Int) ≤ (j : Nat) ∧ ((j : Nat) : Int) < (l.length : Nat) := by omega
    simp [Instr.indexAt, asIntOf, run_underlying ht, Sem.run_bind, h0, hs, hj, Addr.add_lit]
  unfold execOp
  simp only [ho, lk_ev hq, lk_ev hr, Sem.run_bind, hrun, Result.andThen_ok, Sem.run_pure]
  rfl
end
end Go.Proofs.YtfiplhnplmadmaaDoor

/- Steps of a walk over known slots: slices cut, appended from, rows as lists, closures, structs compared. Conditions: none. -/
namespace Go.Proofs.YtfiplhnplmadmaaDoor
open Go.RowKit

section
variable {P : Program} {n : Nat} {m : List (Nat × Value)} {w x : World} {o : Oper} {N : Nat} {T : TypeId} {cs : Array Value} {α : Type} {enc : α → List Value} {sz : Nat} {v : Value} {l : List α}

theorem row_push {base : Nat} {u : Value} {y : α} {k : Nat} {xs : List Value} (h : w.ownsRow base T sz u (l.length + k) (l.flatMap enc ++ xs)) (hk : k = 1) (he : enc y = xs) : w.ownsRow base T sz u (l ++ [y]).length ((l ++ [y]).flatMap enc) := by
  subst hk he; simpa using h
theorem row_lows {base base' : Nat} {u : Value} {k : Nat} {xs : List Value} (h : w.ownsRow base T sz u k xs) (hb : base' ≤ base) : w.ownsRow base' T sz u k xs := by
  refine ⟨h.1, ?_⟩
  rcases h.2 with h2 | ⟨g, c, r, e, hg, h3⟩
  · exact .inl h2
  · exact .inr ⟨g, c, r, e, by omega, h3⟩
theorem row_eq {base : Nat} {u : Value} {l' : List α} (h : w.ownsRow base T sz u l.length (l.flatMap enc)) (e : l = l') : w.ownsRow base T sz u l'.length (l'.flatMap enc) := by subst e; exact h
theorem row_sl {base : Nat} (h : w.ownsRow base T sz v l.length (l.flatMap enc)) (hsz : ∀ y : α, (enc y).length = sz) : SliceOf enc sz w v l := SliceOf.own h (fun y _ => hsz y)
theorem row_fresh {base : Nat} {k : Nat} {xs : List Value} (h : w.ownsRow base T sz v k xs) (hN : N = w.heap.size) : v.ownBlock ≠ some N := fun e => by have := (h.lt N e).2; omega
end
end Go.Proofs.YtfiplhnplmadmaaDoor

/- Drawn regions in which several operations may come up: each way for itself. Conditions: none. -/
namespace Go.Proofs.YtfiplhnplmadmaaDoor
open Go.RowKit

section
variable {P : Program} {n : Nat} {m : List (Nat × Value)} {w : World} {o : Oper} {ops : Array Oper} {Q : Exit → Act → World → Prop} {R : Value → World → Prop} {md : Region.Mode} {S : World → Prop} {fuel i d : Nat} {listed : Array Bool} {a : Act}
def AllW (P : Program) (md : Region.Mode) (ops : Array Oper) (Q : Exit → Act → World → Prop) (S : World → Prop) (fuel : Nat) (listed : Array Bool) (a : Act) (w : World) : List Nat → Prop
  | [] => True
  | i :: r => wpOp P ops (NP Q) i (fun a' w' => S w' ∧ wpAnyH P md ops (NP Q) S fuel (listed.setIfInBounds i true) a' w') a w ∧ AllW P md ops Q S fuel listed a w r
theorem AllW.all : ∀ (rs : List Nat), AllW P md ops Q S fuel listed a w rs → ∀ i ∈ rs, wpOp P ops (NP Q) i (fun a' w' => S w' ∧ wpAnyH P md ops (NP Q) S fuel (listed.setIfInBounds i true) a' w') a w
  | [], _, _, h => by cases h
  | i :: r, h, j, hj => by
    rcases List.mem_cons.1 hj with rfl | hj
    · exact h.1
    · exact AllW.all r h.2 j hj
end
theorem row_one {w : World} {B sz k : Nat} {T : TypeId} {v : Value} {xs : List Value} (h : w.ownsRow B T sz v k xs) : v.oneCell' = true := by
  rcases h.2 with ⟨rfl, _⟩ | ⟨g, cap, cur, rfl, _⟩ <;> rfl
theorem all_nil : ([] : List Value).toArray.all (·.oneCell') = true := by simp
theorem all_cons {u : Value} {l : List Value} (h : u.oneCell' = true) (hl : l.toArray.all (·.oneCell') = true) : (u :: l).toArray.all (·.oneCell') = true := by
  simp only [List.all_toArray, List.all_cons, Bool.and_eq_true] at hl ⊢
  exact ⟨h, hl⟩
/-- A pointer. -/
abbrev pt (b o : Nat) : Value := .pointer (some ⟨b, o, none⟩)
/-! ### Short forms: what follows by computing alone stands behind. -/
section
variable {P : Program} {n : Nat} {m : List (Nat × Value)} {w : World} {o : Oper} {ops : Array Oper} {rest : List Oper} {Q : Exit → Act → World → Prop} {R : Value → World → Prop} {md : Region.Mode} {S : World → Prop} {fuel d : Nat} {listed : Array Bool} {a : Act} {v : Value}
theorem pk (hs : Slots n m a) (hd : o.dst = some d) (hrun : (execOp (lk m) o).run P w = .ok (.value v) w) (h : ∀ a', Slots n ((d, v) :: m) a' → wpList P ops Q rest a' w)
    (hg : wantB m ops o = some true := by rfl) (hdn : Nat.blt d n = true := by rfl) (hok : okOps m o.op = true := by kernel_rfl) (hsel : (match o.op with | .select .. => true | _ => false) = false := by kernel_rfl) : wpList P ops Q (o :: rest) a w := pl_val hs hg hd hdn hok hsel hrun h
theorem pk0 (hs : Slots n m a) (hd : o.dst = some d) (h : ∀ a', Slots n ((d, v) :: m) a' → wpList P ops Q rest a' w)
    (hg : wantB m ops o = some true := by rfl) (hdn : Nat.blt d n = true := by rfl) (hok : okOps m o.op = true := by kernel_rfl) (hsel : (match o.op with | .select .. => true | _ => false) = false := by kernel_rfl) (hrun : (execOp (lk m) o).run P w = .ok (.value v) w := by kernel_rfl) : wpList P ops Q (o :: rest) a w := pl_val hs hg hd hdn hok hsel hrun h
theorem pw (hs : Slots n m a) (hd : o.dst = some d) (h1 : Op1 P n m o w R) (h : ∀ v w' a', R v w' → Slots n ((d, v) :: m) a' → wpList P ops Q rest a' w') (hg : wantB m ops o = some true := by rfl) (hdn : Nat.blt d n = true := by rfl) : wpList P ops Q (o :: rest) a w := pl_want hs hg hd hdn h1 h
theorem pwD (hs : Slots n m a) (hd : o.dst = none) (h1 : Op1 P n m o w R) (h : ∀ v w' a', R v w' → Slots n m a' → wpList P ops Q rest a' w') (hg : wantB m ops o = some true := by rfl) : wpList P ops Q (o :: rest) a w := pl_doW hs hg hd h1 h
theorem psk (hs : Slots n m a) (hd : o.dst = some d) (h : ∀ a', Slots n ((d, undef) :: m) a' → wpList P ops Q rest a' w) (hg : wantB m ops o = some false := by rfl) (hdn : Nat.blt d n = true := by rfl) : wpList P ops Q (o :: rest) a w := pl_skip hs hg hd hdn h
theorem dk (i : Nat) (hs : Slots n m a) (ho : ops[i]? = some o) (hd : o.dst = some d) (hS : S w) (hrun : ∀ w, S w → (execOp (lk m) o).run P w = .ok (.value v) w) (h : ∀ a', Slots n ((d, v) :: m) a' → wpAnyH P md ops (NP Q) S fuel (listed.setIfInBounds i true) a' w)
    (hsel : Region.noSelect ops = true := by kernel_rfl) (hf : Region.free md ops listed i = true := by kernel_rfl) (hr : (Region.ready md ops listed).contains i = true := by kernel_rfl) (hw : wantB m ops o = some true := by rfl) (hdn : Nat.blt d n = true := by rfl) (hok : okOps m o.op = true := by kernel_rfl) : wpAnyH P md ops (NP Q) S (fuel + 1) listed a w := dr_take hs ho hsel hf hr hw hd hdn hS hok hrun h
theorem dk0 (i : Nat) (hs : Slots n m a) (ho : ops[i]? = some o) (hd : o.dst = some d) (hS : S w) (h : ∀ a', Slots n ((d, v) :: m) a' → wpAnyH P md ops (NP Q) S fuel (listed.setIfInBounds i true) a' w)
    (hsel : Region.noSelect ops = true := by kernel_rfl) (hf : Region.free md ops listed i = true := by kernel_rfl) (hr : (Region.ready md ops listed).contains i = true := by kernel_rfl) (hw : wantB m ops o = some true := by rfl) (hdn : Nat.blt d n = true := by rfl) (hok : okOps m o.op = true := by kernel_rfl) (hrun : ∀ w, S w → (execOp (lk m) o).run P w = .ok (.value v) w := by intro _ _; kernel_rfl) : wpAnyH P md ops (NP Q) S (fuel + 1) listed a w := dr_take hs ho hsel hf hr hw hd hdn hS hok hrun h
theorem d1 (i : Nat) (hs : Slots n m a) (ho : ops[i]? = some o) (hd : o.dst = some d) (h1 : Op1 P n m o w R) (hS : ∀ v w', R v w' → S w') (h : ∀ v w' a', R v w' → Slots n ((d, v) :: m) a' → wpAnyH P md ops (NP Q) S fuel (listed.setIfInBounds i true) a' w')
    (hr : Region.ready md ops listed = [i] := by kernel_rfl) (hw : wantB m ops o = some true := by rfl) (hdn : Nat.blt d n = true := by rfl) : wpAnyH P md ops (NP Q) S (fuel + 1) listed a w := dr_one hs ho hr hw hd hdn h1 hS h
theorem d1D (i : Nat) (hs : Slots n m a) (ho : ops[i]? = some o) (hd : o.dst = none) (h1 : Op1 P n m o w R) (hS : ∀ v w', R v w' → S w') (h : ∀ v w' a', R v w' → Slots n m a' → wpAnyH P md ops (NP Q) S fuel (listed.setIfInBounds i true) a' w')
    (hr : Region.ready md ops listed = [i] := by kernel_rfl) (hw : wantB m ops o = some true := by rfl) : wpAnyH P md ops (NP Q) S (fuel + 1) listed a w := dr_oneDo hs ho hr hw hd h1 hS h
end
end Go.Proofs.YtfiplhnplmadmaaDoor

/- Steps of a walk over known slots: rows and blocks of other types lie apart; three results, the first one a struct in a cell. Conditions: none. -/
namespace Go.Proofs.YtfiplhnplmadmaaDoor
open Go.RowKit
section
variable {P : Program} {n : Nat} {m : List (Nat × Value)} {w x : World} {N : Nat} {T : TypeId} {cs : Array Value}
theorem own_neT {B sz k : Nat} {e : TypeId} {v : Value} {xs : List Value} (h : w.ownsRow B e sz v k xs) (hb : Blk w N T cs) (hT : e ≠ T) : v.ownBlock ≠ some N := fun e1 => by
  rcases h.2 with ⟨rfl, _⟩ | ⟨g, c, cur, rfl, hg, hh, _⟩
  · simp [Value.ownBlock] at e1
  · simp only [Value.ownBlock, Option.some.injEq] at e1
    subst e1
    have := hh.symm.trans hb
    simp only [Option.some.injEq, Obj.cells.injEq] at this
    exact hT this.2.1
end
end Go.Proofs.YtfiplhnplmadmaaDoor

/- Maps that the call makes: a list of keys and values; lookups, stores, deletes, lengths. Conditions: none. -/
namespace Go.Proofs.YtfiplhnplmadmaaDoor
open Go.RowKit

section
variable {K : Type} [DecidableEq K]
/-- The place and the value of a key. -/
def lookK (a : K) : List (K × Value) → Nat → Option (Nat × Value)
  | [], _ => none
  | p :: r, i => if a = p.1 then some (i, p.2) else lookK a r (i + 1)
def getK (l : List (K × Value)) (a : K) : Option Value := (lookK a l 0).map (·.2)
def putK (l : List (K × Value)) (a : K) (v : Value) : List (K × Value) :=
  match lookK a l 0 with
  | some (i, _) => l.modify i fun p => (p.1, v)
  | none => l ++ [(a, v)]
theorem lookK_shift (a : K) : ∀ (l : List (K × Value)) (i j : Nat), lookK a l (i + j) = (lookK a l j).map fun p => (i + p.1, p.2)
  | [], _, _ => rfl
  | p :: r, i, j => by
    unfold lookK
    split
    · rfl
    · rw [Nat.add_assoc]; exact lookK_shift a r i (j + 1)
theorem lookK_some {a : K} : ∀ {l : List (K × Value)} {i : Nat} {v : Value}, lookK a l 0 = some (i, v) → l[i]? = some (a, v)
  | [], i, v, h => by simp [lookK] at h
  | p :: r, i, v, h => by
    unfold lookK at h
    split at h
    · rename_i e
      simp only [Option.some.injEq, Prod.mk.injEq] at h
      obtain ⟨rfl, rfl⟩ := h
      subst e; rfl
    · rw [show (0 : Nat) + 1 = 1 + 0 from rfl, lookK_shift] at h
      cases hr : lookK a r 0 with
      | none => rw [hr] at h; simp at h
      | some q =>
        obtain ⟨k, u⟩ := q
        rw [hr] at h
        simp only [Option.map_some, Option.some.injEq, Prod.mk.injEq] at h
        obtain ⟨rfl, rfl⟩ := h
        rw [Nat.add_comm, List.getElem?_cons_succ]
        exact lookK_some hr
theorem lookK_none {a : K} : ∀ {l : List (K × Value)}, lookK a l 0 = none → ∀ p ∈ l, p.1 ≠ a
  | [], _, p, hp => by simp at hp
  | q :: r, h, p, hp => by
    unfold lookK at h
    split at h
    · simp at h
    · rename_i e
      rw [show (0 : Nat) + 1 = 1 + 0 from rfl, lookK_shift] at h
      have hr : lookK a r 0 = none := by cases hr : lookK a r 0 <;> simp_all
      rcases List.mem_cons.1 hp with rfl | hp
      · exact fun e' => e e'.symm
      · exact lookK_none hr p hp
theorem getK_cons (p : K × Value) (l : List (K × Value)) (b : K) : getK (p :: l) b = if b = p.1 then some p.2 else getK l b := by
  simp only [getK, lookK]
  split
  · rfl
  · rw [show (0 : Nat) + 1 = 1 + 0 from rfl, lookK_shift]; cases lookK b l 0 <;> rfl
@[simp] theorem getK_nil (b : K) : getK ([] : List (K × Value)) b = none := rfl
theorem getK_append (l r : List (K × Value)) (b : K) : getK (l ++ r) b = (getK l b).or (getK r b) := by
  induction l with
  | nil => simp
  | cons p l ih => rw [List.cons_append, getK_cons, getK_cons, ih]; split <;> simp
theorem getK_none {l : List (K × Value)} {b : K} (h : ∀ p ∈ l, p.1 ≠ b) : getK l b = none := by
  induction l with
  | nil => rfl
  | cons p l ih => rw [getK_cons, if_neg (fun e => h p (by simp) e.symm), ih (fun q hq => h q (by simp [hq]))]
theorem getK_modify : ∀ (l : List (K × Value)) (i : Nat) (a : K) (u v : Value) (b : K), l[i]? = some (a, u) → (∀ j, j < i → ∀ p, l[j]? = some p → p.1 ≠ a) → getK (l.modify i fun p => (p.1, v)) b = if b = a then some v else getK l b
  | [], i, a, u, v, b, h, _ => by simp at h
  | p :: r, 0, a, u, v, b, h, _ => by
    simp at h; subst h
    rw [List.modify_zero_cons, getK_cons, getK_cons]
    split <;> simp_all
  | p :: r, i + 1, a, u, v, b, h, hn => by
    rw [List.modify_succ_cons, getK_cons, getK_cons, getK_modify r i a u v b (by simpa using h) (fun j hj q hq => hn (j + 1) (by omega) q (by simpa using hq))]
    have hp : p.1 ≠ a := hn 0 (by omega) p rfl
    by_cases e : b = p.1
    · subst e; simp [hp]
    · simp [e]
theorem lookK_first {a : K} : ∀ {l : List (K × Value)} {i : Nat} {v : Value}, lookK a l 0 = some (i, v) → ∀ j, j < i → ∀ p, l[j]? = some p → p.1 ≠ a
  | [], i, v, h => by simp [lookK] at h
  | q :: r, i, v, h => by
    intro j hj p hp
    unfold lookK at h
    split at h
    · simp at h; omega
    · rename_i e
      rw [show (0 : Nat) + 1 = 1 + 0 from rfl, lookK_shift] at h
      cases hr : lookK a r 0 with
      | none => rw [hr] at h; simp at h
      | some x =>
        obtain ⟨k, u⟩ := x
        rw [hr] at h
        simp only [Option.map_some, Option.some.injEq, Prod.mk.injEq] at h
        cases j with
        | zero => simp at hp; subst hp; exact fun e' => e e'.symm
        | succ j => exact lookK_first hr j (by omega) p (by simpa using hp)
theorem getK_put (l : List (K × Value)) (a : K) (v : Value) (b : K) : getK (putK l a v) b = if b = a then some v else getK l b := by
  unfold putK
  cases h : lookK a l 0 with
  | none =>
    simp only []
    rw [getK_append]
    by_cases e : b = a
    · subst e; rw [getK_none (lookK_none h)]; simp [getK_cons]
    · simp [getK_cons, e]
  | some x =>
    obtain ⟨i, u⟩ := x
    exact getK_modify l i a u v b (lookK_some h) (lookK_first h)
theorem putK_keys (l : List (K × Value)) (a : K) (v : Value) (h : (l.map (·.1)).Nodup) : ((putK l a v).map (·.1)).Nodup := by
  unfold putK
  cases h1 : lookK a l 0 with
  | none =>
    simp only [List.map_append, List.map_cons, List.map_nil]
    rw [List.nodup_append]
    refine ⟨h, by simp, ?_⟩
    intro x hx y hy
    obtain ⟨p, hp, rfl⟩ := List.mem_map.1 hx
    simp at hy; subst hy
    exact lookK_none h1 p hp
  | some x =>
    obtain ⟨i, u⟩ := x
    have : (l.modify i fun p => (p.1, v)).map (·.1) = l.map (·.1) := by
      apply List.ext_getElem?
      intro j
      simp only [List.getElem?_map, List.getElem?_modify]
      cases l[j]? <;> simp
      split <;> rfl
    simp only []
    rw [this]; exact h
end

section
variable {K : Type}
variable {P : Program} {n : Nat} {m : List (Nat × Value)} {w x : World} {o : Oper} {B : Nat} {l : List (K × Value)} {kv : K → Value} {kt e t : TypeId} {q r : Operand} {a : K}
/-- Block B is a map that holds just these entries. -/
def MapB (kv : K → Value) (w : World) (B : Nat) (l : List (K × Value)) : Prop :=
  ∃ es clock, w.heap[B]? = some (.map es clock) ∧ es.toList.map (fun e => (e.key, e.val)) = l.map (fun p => (kv p.1, p.2)) ∧ (l.map (·.1)).Nodup ∧ (es.toList.map (·.born)).Nodup ∧ ∀ e ∈ es.toList, e.born < clock
theorem MapB.lt (h : MapB kv w B l) : B < w.heap.size := by obtain ⟨_, _, h, _⟩ := h; exact (Array.getElem?_eq_some_iff.1 h).1
theorem MapB.keys (h : MapB kv w B l) : (l.map (·.1)).Nodup := by obtain ⟨_, _, _, _, h, _⟩ := h; exact h
theorem MapB.kept {row : Option Nat} (h : MapB kv w B l) (hg : w.grownBy x row) (hne : row ≠ some B) : MapB kv x B l := by
  obtain ⟨es, c, h1, h2⟩ := h
  exact ⟨es, c, by rw [hg.block B (Array.getElem?_eq_some_iff.1 h1).1 (fun e => hne e.symm)]; exact h1, h2⟩
theorem MapB.below (h : MapB kv w B l) (hb : Below w.heap.size w x) : MapB kv x B l := h.kept (below_grown hb) (by simp)
theorem op_makeMap (kv : K → Value) (hrun : (execOp (lk m) o).run P w = .ok (.value (.map (some w.heap.size))) (w.alloc (.map #[] 0))) (hok : okOps m o.op = true) (hsel : (match o.op with | .select .. => true | _ => false) = false) :
    Op1 P n m o w (fun u x => ∃ N, u = .map (some N) ∧ N = w.heap.size ∧ x.heap.size = N + 1 ∧ MapB kv x N [] ∧ w.grownBy x none) :=
  (op_run hok hsel hrun).mono fun u x ⟨h1, h2⟩ => by
    subst h2
    exact ⟨w.heap.size, h1, rfl, by simp, ⟨#[], 0, heap_alloc_new w _, by simp, by simp, by simp, by simp⟩, World.grownBy_alloc w _ none⟩
theorem rn_lenMap {ts : Array TypeId} (ho : o.op = .call { callee := .builtin .len, args := #[q], argTypes := #[t] }) (hq : ev m q = some (.map (some B))) (ht : P.underlying t = some (.map kt e)) (h : MapB kv w B l) : (execOp (lk m) o).run P w = .ok (.value (.int .i64 (l.length : Nat))) w := by
  obtain ⟨es, cl, h1, h2, _⟩ := h
  have hl : es.size = l.length := by have := congrArg List.length h2; simpa using this
  have hg : (getObj B).run P w = .ok (.map es cl) w := by simp [getObj, Sem.run, h1]
  unfold execOp
  simp [ho, resolve, invoke, builtin, Sem.run_bind, lk_ev hq, Builtin.len_, goInt, run_underlying ht, hg, hl]
theorem setObj_grown (w : World) (B : Nat) (ob : Obj) : w.grownBy { w with heap := w.heap.setIfInBounds B ob } (some B) :=
  ⟨rfl, rfl, rfl, by simp, fun k _ hk => by simp [Array.getElem?_setIfInBounds_ne (show B ≠ k from fun e => hk (by rw [e]))]⟩

end

section
variable {K : Type} [DecidableEq K]
/-- How keys of a kind lie in memory, are found, stay. -/
structure KL (P : Program) (kt : TypeId) (kv : K → Value) : Prop where
  chk : ∀ (w : World) (em : Bool) (a : K), (Instr.checkKey em 10000 kt (kv a)).run P w = .ok () w
  fnd : ∀ (w : World) (a : K) (es : List MapEntry) (l : List (K × Value)), es.map (fun e => (e.key, e.val)) = l.map (fun p => (kv p.1, p.2)) → (Instr.findKey kt (kv a) es).run P w = .ok (lookK a l 0) w
  bits : ∀ a : K, Instr.sameBits 10000 (kv a) (kv a) = true

variable {P : Program} {n : Nat} {m : List (Nat × Value)} {w x : World} {o : Oper} {B : Nat} {l : List (K × Value)} {kv : K → Value} {kt e t : TypeId} {q r : Operand} {a : K}
theorem run_look (KK : KL P kt kv) (ht : P.underlying t = some (.map kt e)) {z : Value} (hz : ∀ w : World, (zeroValue e).run P w = .ok z w) (h : MapB kv w B l) (c : Bool) :
    (Instr.lookup t (.map (some B)) (kv a) c).run P w = .ok (if c then .tuple #[(getK l a).getD z, .bool (getK l a).isSome] else (getK l a).getD z) w := by
  obtain ⟨es, cl, h1, h2, _⟩ := h
  have hg : (getObj B).run P w = .ok (.map es cl) w := by simp [getObj, Sem.run, h1]
  have hf := KK.fnd w a es.toList l h2
  simp only [Instr.lookup, Sem.run_bind, run_underlying ht, Result.andThen_ok, hg, Sem.run_pure, KK.chk, hf]
  unfold getK
  cases lookK a l 0 with
  | none => simp [hz]
  | some p => simp
theorem rn_look (KK : KL P kt kv) (ho : o.op = .lookup t q r false) (hq : ev m q = some (.map (some B))) (hr : ev m r = some (kv a)) (ht : P.underlying t = some (.map kt e)) {z : Value} (hz : ∀ w : World, (zeroValue e).run P w = .ok z w) (h : MapB kv w B l) :
    (execOp (lk m) o).run P w = .ok (.value ((getK l a).getD z)) w := by
  have := run_look (a := a) KK ht hz h false
  unfold execOp
  simp only [ho, lk_ev hq, lk_ev hr, Sem.run_bind, this, Result.andThen_ok, Sem.run_pure]
  rfl
theorem run_update (KK : KL P kt kv) (ht : P.underlying t = some (.map kt e)) (v : Value) (h : MapB kv w B l) :
    ∃ x, (Instr.mapUpdate t (.map (some B)) (kv a) v).run P w = .ok () x ∧ MapB kv x B (putK l a v) ∧ x.heap.size = w.heap.size ∧ w.grownBy x (some B) := by
  have hkn := putK_keys l a v h.keys
  obtain ⟨es, cl, h1, h2, h3, h4, h5⟩ := h
  have hlt := (Array.getElem?_eq_some_iff.1 h1).1
  have hg : (getObj B).run P w = .ok (.map es cl) w := by simp [getObj, Sem.run, h1]
  have hso : ∀ ob : Obj, (setObj B ob).run P w = .ok () { w with heap := w.heap.setIfInBounds B ob } := fun ob => by simp [setObj, Sem.run, h1]
  have hf := KK.fnd w a es.toList l h2
  cases hL : lookK a l 0 with
  | none =>
    refine ⟨{ w with heap := w.heap.setIfInBounds B (.map (es.push { key := kv a, val := v, born := cl }) (cl + 1)) }, ?_, ⟨es.push { key := kv a, val := v, born := cl }, cl + 1, by simp [hlt], ?_, hkn, ?_, ?_⟩, by simp, setObj_grown w B _⟩
    · simp only [Instr.mapUpdate, Sem.run_bind, run_underlying ht, Result.andThen_ok, hg, KK.chk, hf, hL, hso]
    · simp [putK, hL, h2]
    · simp only [Array.toList_push, List.map_append, List.map_cons, List.map_nil]
      rw [List.nodup_append]
      refine ⟨h4, by simp, fun y hy z hz => ?_⟩
      obtain ⟨e0, he, rfl⟩ := List.mem_map.1 hy
      simp at hz; subst hz
      have := h5 e0 he; omega
    · intro e0 he
      simp only [Array.toList_push, List.mem_append, List.mem_singleton] at he
      rcases he with he | rfl
      · have := h5 e0 he; omega
      · exact Nat.lt_succ_self _
  | some p =>
    obtain ⟨i, u⟩ := p
    have hli := lookK_some hL
    have hei : (es.toList.map (fun e => (e.key, e.val)))[i]? = some (kv a, u) := by rw [h2]; simp [hli]
    rw [List.getElem?_map] at hei
    cases he : es.toList[i]? with
    | none => rw [he] at hei; simp at hei
    | some e0 =>
      rw [he] at hei
      simp only [Option.map_some, Option.some.injEq, Prod.mk.injEq] at hei
      have he' : es[i]? = some e0 := by rw [← Array.getElem?_toList]; exact he
      have hst : (Instr.keyThatStays e0.key (kv a)).run P w = .ok (kv a) w := by
        rw [hei.1]; unfold Instr.keyThatStays; rw [KK.bits a]; rfl
      refine ⟨{ w with heap := w.heap.setIfInBounds B (.map (es.modify i fun e => { e with key := kv a, val := v }) cl) }, ?_, ⟨es.modify i fun e => { e with key := kv a, val := v }, cl, by simp [hlt], ?_, hkn, ?_, ?_⟩, by simp, setObj_grown w B _⟩
      · simp only [Instr.mapUpdate, Sem.run_bind, run_underlying ht, Result.andThen_ok, hg, KK.chk, hf, hL, he', Option.map_some, Option.getD_some, hst, hso]
      · simp only [putK, hL, Array.toList_modify]
        apply List.ext_getElem?
        intro j
        have hj : (es.toList.map (fun e => (e.key, e.val)))[j]? = (l.map (fun p => (kv p.1, p.2)))[j]? := by rw [h2]
        simp only [List.getElem?_map, List.getElem?_modify] at hj ⊢
        by_cases e1 : i = j
        · subst e1; simp [he, hli]
        · simp only [e1, if_false]
          cases hx : es.toList[j]? <;> cases hy : l[j]? <;> simp_all
      · have : (es.toList.modify i fun e0 => { e0 with key := kv a, val := v }).map (·.born) = es.toList.map (·.born) := by
          apply List.ext_getElem?
          intro j
          simp only [List.getElem?_map, List.getElem?_modify]
          cases es.toList[j]? <;> simp
          split <;> rfl
        rw [Array.toList_modify, this]; exact h4
      · intro e1 h1'
        rw [Array.toList_modify] at h1'
        obtain ⟨j, hj⟩ := List.getElem?_of_mem h1'
        rw [List.getElem?_modify] at hj
        cases hx : es.toList[j]? with
        | none => rw [hx] at hj; simp at hj
        | some e2 =>
          rw [hx] at hj
          have := h5 e2 (List.mem_of_getElem? hx)
          simp at hj; subst hj
          split <;> simpa using this
theorem op_mapUpdate (KK : KL P kt kv) {s : Operand} {v : Value} (ho : o.op = .mapUpdate t q r s) (hq : ev m q = some (.map (some B))) (hr : ev m r = some (kv a)) (hs : ev m s = some v) (ht : P.underlying t = some (.map kt e)) (h : MapB kv w B l) :
    Op1 P n m o w (fun _ x => MapB kv x B (putK l a v) ∧ x.heap.size = w.heap.size ∧ w.grownBy x (some B)) := by
  intro ac ha N Q hN
  obtain ⟨x, hx, h1, h2, h3⟩ := run_update (a := a) KK ht v h
  unfold Oper.wp execOp
  simp only [ho, ha.ev hq, ha.ev hr, ha.ev hs, Sem.run_bind, hx, Result.andThen_ok, Sem.run_pure]
  exact hN _ _ ⟨h1, h2, h3⟩
end
end Go.Proofs.YtfiplhnplmadmaaDoor

/- Keys of maps: ints, texts, and structs or arrays that are compared part by part. Conditions: none. -/
namespace Go.Proofs.YtfiplhnplmadmaaDoor
open Go.RowKit

theorem findNow_keys {K : Type} [DecidableEq K] {kv : K → Value} {d : TypeDesc} (h : ∀ a b, Instr.sameNow d (kv a) (kv b) = some (decide (a = b))) (a : K) : ∀ (es : List MapEntry) (l : List (K × Value)) (i : Nat), es.map (fun e => (e.key, e.val)) = l.map (fun p => (kv p.1, p.2)) → Instr.findNow d (kv a) es i = some (lookK a l i)
  | [], [], _, _ => rfl
  | [], p :: r, _, h => by simp at h
  | e :: es, [], _, h => by simp at h
  | e :: es, p :: r, i, he => by
    simp only [List.map_cons, List.cons.injEq, Prod.mk.injEq] at he
    obtain ⟨⟨h1, h2⟩, h3⟩ := he
    unfold Instr.findNow lookK
    rw [h1, h a p.1, h2]
    by_cases e1 : a = p.1
    · simp [e1]
    · simp only [e1, decide_false, if_false]
      exact findNow_keys h a es r (i + 1) h3
theorem plainKL {P : Program} {kt : TypeId} {K : Type} [DecidableEq K] {kv : K → Value} {d : TypeDesc} (ht : P.underlying kt = some d) (h : ∀ a b, Instr.sameNow d (kv a) (kv b) = some (decide (a = b))) (hc : ∀ (w : World) em a, (Instr.checkKey em 10000 kt (kv a)).run P w = .ok () w) (hb : ∀ a, Instr.sameBits 10000 (kv a) (kv a) = true) : KL P kt kv where
  chk := hc
  fnd w a es l hl := by
    simp only [Instr.findKey, Sem.run_bind, run_underlying ht, Result.andThen_ok, findNow_keys h a es l 0 hl, Sem.run_pure]
  bits := hb
def intK (n : Int) : Value := .int .i64 n
theorem intKL {P : Program} {kt : TypeId} (ht : P.underlying kt = some (.int .i64)) : KL P kt intK :=
  plainKL ht (fun a b => by simp [Instr.sameNow, intK]; rfl) (fun w em a => (show ∀ d, (Instr.checkKey em (d + 1) kt (intK a)).run P w = .ok () w from fun d => by
    simp only [Instr.checkKey, Sem.run_bind, run_underlying ht, Result.andThen_ok, intK, Sem.run_pure]) 9999) (fun a => (show ∀ d, Instr.sameBits (d + 1) (intK a) (intK a) = true from fun d => by simp [Instr.sameBits, intK]) 9999)
end Go.Proofs.YtfiplhnplmadmaaDoor

/- Maps that the call makes, told by a function that says what each key has (a default for those that are not there). Conditions: none. -/
namespace Go.Proofs.YtfiplhnplmadmaaDoor
open Go.RowKit

section
variable {K V : Type} {P : Program} {n : Nat} {m : List (Nat × Value)} {w x : World} {o : Oper} {B : Nat} {kv : K → Value} {kt e t : TypeId} {q r : Operand} {a : K} {enc : V → Value} {z : V} {g : K → V}

/-- Block B is a map; a key a has g a (z, if it is not there). -/
def MapG [DecidableEq K] (kv : K → Value) (enc : V → Value) (z : V) (w : World) (B : Nat) (g : K → V) : Prop := ∃ l, MapB kv w B l ∧ ∀ a, (getK l a).getD (enc z) = enc (g a)
variable [DecidableEq K]
theorem MapG.lt (h : MapG kv enc z w B g) : B < w.heap.size := by obtain ⟨l, h, _⟩ := h; exact h.lt
theorem MapG.kept {row : Option Nat} (h : MapG kv enc z w B g) (hg : w.grownBy x row) (hne : row ≠ some B) : MapG kv enc z x B g := by
  obtain ⟨l, h1, h2⟩ := h; exact ⟨l, h1.kept hg hne, h2⟩
theorem MapG.below (h : MapG kv enc z w B g) (hb : Below w.heap.size w x) : MapG kv enc z x B g := h.kept (below_grown hb) (by simp)
theorem MapG.row {B' : Nat} {T : TypeId} {sz k : Nat} {v : Value} {xs : List Value} (h : MapG kv enc z w B g) (hr : w.ownsRow B' T sz v k xs) : v.ownBlock ≠ some B := by
  intro e1
  obtain ⟨l, ⟨es, c, h1, _⟩, _⟩ := h
  rcases hr.2 with ⟨rfl, _⟩ | ⟨g1, _, _, rfl, _, hg1, _⟩
  · simp [Value.ownBlock] at e1
  · simp [Value.ownBlock] at e1
    subst e1; rw [h1] at hg1; cases hg1
end
end Go.Proofs.YtfiplhnplmadmaaDoor

/- Ranges over maps that the call made: what is still to come, whichever comes next. Conditions: none. -/
namespace Go.Proofs.YtfiplhnplmadmaaDoor
open Go.RowKit Go.ChangeMaps

section
variable {K : Type} {P : Program} {n : Nat} {m : List (Nat × Value)} {w x : World} {o : Oper} {B r : Nat} {l left : List (K × Value)} {kv : K → Value} {kt e t : TypeId} {q : Operand}
/-- Block r ranges over the map at B; left is still to come. -/
def IterB (kv : K → Value) (w : World) (r B : Nat) (left : List (K × Value)) : Prop :=
  ∃ es clock since seen c0, w.heap[B]? = some (.map es clock) ∧ w.heap[r]? = some (.mapIter (some B) since seen c0) ∧ since ≤ c0 ∧ c0 = clock ∧ (∀ e ∈ es.toList, e.born < since) ∧ (es.toList.map (·.born)).Nodup ∧
    (es.toList.filter fun e => !seen.contains e.born).map (fun e => (e.key, e.val)) = left.map (fun p => (kv p.1, p.2))
theorem IterB.lt (h : IterB kv w r B left) : r < w.heap.size := by obtain ⟨_, _, _, _, _, _, h, _⟩ := h; exact (Array.getElem?_eq_some_iff.1 h).1
theorem IterB.kept {row : Option Nat} (h : IterB kv w r B left) (hg : w.grownBy x row) (h1 : row ≠ some B) (h2 : row ≠ some r) : IterB kv x r B left := by
  obtain ⟨es, c, s, sn, c0, a1, a2, a3⟩ := h
  exact ⟨es, c, s, sn, c0, by rw [hg.block B (Array.getElem?_eq_some_iff.1 a1).1 (fun e => h1 e.symm)]; exact a1, by rw [hg.block r (Array.getElem?_eq_some_iff.1 a2).1 (fun e => h2 e.symm)]; exact a2, a3⟩
theorem IterB.row {B' : Nat} {T : TypeId} {sz k : Nat} {v : Value} {xs : List Value} (h : IterB kv w r B left) (hr : w.ownsRow B' T sz v k xs) : v.ownBlock ≠ some B ∧ v.ownBlock ≠ some r := by
  obtain ⟨es, c, s, sn, c0, a1, a2, _⟩ := h
  rcases hr.2 with ⟨rfl, _⟩ | ⟨g1, _, _, rfl, _, hg1, _⟩
  · simp [Value.ownBlock]
  · constructor
    · intro e1
      simp [Value.ownBlock] at e1
      subst e1; rw [a1] at hg1; cases hg1
    · intro e1
      simp [Value.ownBlock] at e1
      subst e1; rw [a2] at hg1; cases hg1
theorem op_range {a : K} (ho : o.op = .range t q) (hq : ev m q = some (.map (some B))) (ht : P.underlying t = some (.map kt e)) (h : MapB kv w B l) :
    Op1 P n m o w (fun u x => ∃ r, u = .pointer (some ⟨r, 0, none⟩) ∧ r = w.heap.size ∧ IterB kv x r B l ∧ x.heap.size = r + 1 ∧ w.grownBy x none) := by
  intro ac ha N Q hN
  obtain ⟨es, cl, h1, h2, h3, h4, h5⟩ := h
  have hg : (getObj B).run P w = .ok (.map es cl) w := by simp [getObj, Sem.run, h1]
  have hrun : (Instr.range t (.map (some B))).run P w = .ok (.pointer (some ⟨w.heap.size, 0, none⟩)) (w.alloc (.mapIter (some B) cl #[] cl)) := by
    simp only [Instr.range, Sem.run_bind, run_underlying ht, Result.andThen_ok, hg, Sem.run_pure]
    rfl
  unfold Oper.wp execOp
  simp only [ho, ha.ev hq, Sem.run_bind, hrun, Result.andThen_ok, Sem.run_pure]
  have hlt := (Array.getElem?_eq_some_iff.1 h1).1
  have hgr := World.grownBy_alloc w (.mapIter (some B) cl #[] cl) none
  refine hN _ _ ⟨w.heap.size, rfl, rfl, ⟨es, cl, cl, #[], cl, ?_, heap_alloc_new w _, Nat.le_refl _, rfl, h5, h4, ?_⟩, by simp, hgr⟩
  · rw [hgr.block B hlt (by simp)]; exact h1
  · rw [← h2]; congr 1; exact List.filter_eq_self.2 (fun _ _ => by simp)
theorem filter_born : ∀ (L1 L2 : List MapEntry) (e : MapEntry), ((L1 ++ e :: L2).map (·.born)).Nodup → (L1 ++ e :: L2).filter (fun x => x.born != e.born) = L1 ++ L2
  | L1, L2, e, h => by
    rw [List.map_append, List.map_cons, List.nodup_append] at h
    obtain ⟨h1, h2, h3⟩ := h
    rw [List.nodup_cons] at h2
    rw [List.filter_append, List.filter_cons]
    simp only [bne_self_eq_false, Bool.false_eq_true, if_false]
    rw [List.filter_eq_self.2, List.filter_eq_self.2]
    · intro y hy
      have : y.born ≠ e.born := fun hq => h2.1 (hq ▸ List.mem_map_of_mem hy)
      simpa using this
    · intro y hy
      have := h3 y.born (List.mem_map_of_mem hy) e.born (by simp)
      simpa using this
/-- The next one: none is left; or one that is left. -/
theorem op_next (ho : o.op = .next q false) (hq : ev m q = some (.pointer (some ⟨r, 0, none⟩))) (h : IterB kv w r B left) :
    Op1 P n m o w (fun u x => (left = [] ∧ u = .tuple #[.bool false] ∧ x = w) ∨
      ∃ p l1 l2, left = l1 ++ p :: l2 ∧ u = .tuple #[.bool true, kv p.1, p.2] ∧ IterB kv x r B (l1 ++ l2) ∧ (Instr.entry (.pointer (some ⟨r, 0, none⟩))).run P x = .ok (.tuple #[kv p.1, p.2]) x ∧ x.heap.size = w.heap.size ∧ w.grownBy x (some r)) := by
  intro ac ha N Q hN
  obtain ⟨es, cl, since, seen, c0, hB, hr, hsc, rfl, hold, hnd, hl⟩ := h
  have hLl : (leftOf es seen).toList = es.toList.filter fun e => !seen.contains e.born := by unfold leftOf; rw [Array.toList_filter]
  unfold Oper.wp execOp
  simp only [ho, ha.ev hq, Sem.run_bind]
  rcases run_next_at (P := P) w o.type r B since c0 seen es c0 hr hB hold hsc with ⟨h0, hrun⟩ | ⟨e, he, w1, hal, hrun⟩
  · simp only [hrun, Result.andThen_ok, Sem.run_pure]
    refine hN _ _ (.inl ⟨?_, rfl, rfl⟩)
    have h1 : (leftOf es seen).toList = [] := by rw [Array.eq_empty_of_size_eq_zero h0]
    rw [← hLl, h1] at hl
    exact List.map_eq_nil_iff.1 hl.symm
  · simp only [hrun, Result.andThen_ok, Sem.run_pure]
    have hem := mem_left he
    rw [hLl] at he
    obtain ⟨L1, L2, hL⟩ := List.append_of_mem he
    rw [hL, List.map_append, List.map_cons] at hl
    obtain ⟨l1, l2', h1, h2, h3⟩ := List.map_eq_append_iff.1 hl.symm
    obtain ⟨p, l2, h4, h5, h6⟩ := List.map_eq_cons_iff.1 h3
    subst h1 h4
    have hkey : kv p.1 = e.key := (Prod.mk.inj h5).1
    have hval : p.2 = e.val := (Prod.mk.inj h5).2
    have hr1 : w1.heap[r]? = some (.mapIter (some B) since seen c0) := by rcases hal with rfl | rfl <;> exact hr
    have hb1 : w1.heap[B]? = some (.map es c0) := by rcases hal with rfl | rfl <;> exact hB
    have hne : B ≠ r := fun e1 => by subst e1; rw [hr] at hB; cases hB
    have hset := Go.MapKept.heap_set (o' := .mapIter (some B) since (seen.push e.born) c0) hr1
    have hb' : (setBlock w1 r (.mapIter (some B) since (seen.push e.born) c0)).heap[B]? = some (.map es c0) := (hset.2 B hne).trans hb1
    have hgr : w.grownBy (setBlock w1 r (.mapIter (some B) since (seen.push e.born) c0)) (some r) := by
      rcases hal with rfl | rfl
      · exact ⟨rfl, rfl, rfl, by simp [setBlock], fun k _ hk => hset.2 k (fun e1 => hk (by rw [e1]))⟩
      · exact ⟨rfl, rfl, rfl, by show _ ≤ (w.heap.setIfInBounds r _).size; simp, fun k _ hk => hset.2 k (fun e1 => hk (by rw [e1]))⟩
    have hsz : (setBlock w1 r (.mapIter (some B) since (seen.push e.born) c0)).heap.size = w.heap.size := by
      rcases hal with rfl | rfl
      · simp [setBlock]
      · show (w.heap.setIfInBounds r _).size = _; simp
    have hen := run_entry_at (P := P) _ r B since seen es c0 e hset.1 hb' hem.1 hnd
    rw [← hkey, ← hval]
    refine hN _ _ (.inr ⟨p, l1, l2, rfl, rfl, ⟨es, c0, since, seen.push e.born, c0, hb', hset.1, hsc, rfl, hold, hnd, ?_⟩, by rw [hen, hkey, hval], hsz, hgr⟩)
    have hf : (es.toList.filter fun x => !(seen.push e.born).contains x.born) = (es.toList.filter fun x => !seen.contains x.born).filter fun x => x.born != e.born := by
      rw [List.filter_filter]
      congr 1
      funext y
      rw [contains_push]
      cases seen.contains y.born <;> cases hq : (y.born == e.born) <;> simp [bne, hq]
    rw [hf, hL, filter_born L1 L2 e, List.map_append, ← h2, ← h6, List.map_append]
    rw [← hL]
    exact (List.filter_sublist.map _).nodup hnd
theorem rn_entry {u : Value} (ho : o.op = .entry q) (hq : ev m q = some (.pointer (some ⟨r, 0, none⟩))) (h : (Instr.entry (.pointer (some ⟨r, 0, none⟩))).run P w = .ok u w) : (execOp (lk m) o).run P w = .ok (.value u) w := by
  unfold execOp
  simp only [ho, lk_ev hq, Sem.run_bind, h, Result.andThen_ok, Sem.run_pure]
end
end Go.Proofs.YtfiplhnplmadmaaDoor

/- Maps that the call made, told by a function: what a key has, if anything; and ranges over them. Conditions: none. -/
namespace Go.Proofs.YtfiplhnplmadmaaDoor
open Go.RowKit

section
variable {K V : Type} [DecidableEq K] {P : Program} {n : Nat} {m : List (Nat × Value)} {w x : World} {o : Oper} {B r c : Nat} {kv : K → Value} {enc : V → Value} {g : K → Option V} {kt e t : TypeId} {q s : Operand} {a : K} {v : V} {left : List (K × V)}
/-- Block B is a map of at most c entries; a key a has g a. -/
def MapO (kv : K → Value) (enc : V → Value) (w : World) (B : Nat) (g : K → Option V) (c : Nat) : Prop := ∃ l, MapB kv w B l ∧ (∀ a, getK l a = (g a).map enc) ∧ l.length ≤ c
theorem MapO.lt (h : MapO kv enc w B g c) : B < w.heap.size := by obtain ⟨l, h, _⟩ := h; exact h.lt
theorem MapO.kept {row : Option Nat} (h : MapO kv enc w B g c) (hg : w.grownBy x row) (hne : row ≠ some B) : MapO kv enc x B g c := by
  obtain ⟨l, h1, h2⟩ := h; exact ⟨l, h1.kept hg hne, h2⟩
theorem MapO.below (h : MapO kv enc w B g c) (hb : Below w.heap.size w x) : MapO kv enc x B g c := h.kept (below_grown hb) (by simp)
theorem MapO.row {B' : Nat} {T : TypeId} {sz k : Nat} {u : Value} {xs : List Value} (h : MapO kv enc w B g c) (hr : w.ownsRow B' T sz u k xs) : u.ownBlock ≠ some B := by
  intro e1
  obtain ⟨l, ⟨es, c', h1, _⟩, _⟩ := h
  rcases hr.2 with ⟨rfl, _⟩ | ⟨g1, _, _, rfl, _, hg1, _⟩
  · simp [Value.ownBlock] at e1
  · simp [Value.ownBlock] at e1
    subst e1; rw [h1] at hg1; cases hg1
theorem MapO.eq {g' : K → Option V} {c' : Nat} (h : MapO kv enc w B g c) (hg : g = g') (hc : c ≤ c') : MapO kv enc w B g' c' := by
  subst hg; obtain ⟨l, h1, h2, h3⟩ := h; exact ⟨l, h1, h2, Nat.le_trans h3 hc⟩
theorem op_makeO (kv : K → Value) (enc : V → Value) (hrun : (execOp (lk m) o).run P w = .ok (.value (.map (some w.heap.size))) (w.alloc (.map #[] 0))) (hok : okOps m o.op = true) (hsel : (match o.op with | .select .. => true | _ => false) = false) :
    Op1 P n m o w (fun u x => ∃ N, u = .map (some N) ∧ N = w.heap.size ∧ x.heap.size = N + 1 ∧ MapO kv enc x N (fun _ => none) 0 ∧ w.grownBy x none) :=
  (op_makeMap kv hrun hok hsel).mono fun u x ⟨N, h1, h2, h3, h4, h5⟩ => ⟨N, h1, h2, h3, ⟨[], h4, fun a => by simp, by simp⟩, h5⟩
theorem putK_len (l : List (K × Value)) (a : K) (v : Value) : (putK l a v).length ≤ l.length + 1 := by unfold putK; split <;> simp
theorem op_updateO (KK : KL P kt kv) {q1 : Operand} (ho : o.op = .mapUpdate t q q1 s) (hq : ev m q = some (.map (some B))) (hr : ev m q1 = some (kv a)) (hs : ev m s = some (enc v)) (ht : P.underlying t = some (.map kt e)) (h : MapO kv enc w B g c) :
    Op1 P n m o w (fun _ x => MapO kv enc x B (fun b => if b = a then some v else g b) (c + 1) ∧ x.heap.size = w.heap.size ∧ w.grownBy x (some B)) := by
  obtain ⟨l, h1, h2, h3⟩ := h
  refine (op_mapUpdate KK ho hq hr hs ht h1).mono fun _ x ⟨k1, k2, k3⟩ => ⟨⟨_, k1, fun b => ?_, Nat.le_trans (putK_len _ _ _) (by omega)⟩, k2, k3⟩
  rw [getK_put]
  by_cases e1 : b = a <;> simp [e1, h2]
theorem rn_lenO {ts : Array TypeId} (ho : o.op = .call { callee := .builtin .len, args := #[q], argTypes := #[t] }) (hq : ev m q = some (.map (some B))) (ht : P.underlying t = some (.map kt e)) (h : MapO kv enc w B g c) :
    ∃ k : Nat, k ≤ c ∧ (execOp (lk m) o).run P w = .ok (.value (.int .i64 (k : Nat))) w := by
  obtain ⟨l, h1, h2, h3⟩ := h
  exact ⟨l.length, h3, rn_lenMap (ts := ts) ho hq ht h1⟩
theorem op_lenO {ts : Array TypeId} (ho : o.op = .call { callee := .builtin .len, args := #[q], argTypes := #[t] }) (hq : ev m q = some (.map (some B))) (ht : P.underlying t = some (.map kt e)) (h : MapO kv enc w B g c) (hok : okOps m o.op = true) (hsel : (match o.op with | .select .. => true | _ => false) = false) :
    Op1 P n m o w (fun u x => ∃ k : Nat, u = .int .i64 ((k : Nat) : Int) ∧ k ≤ c ∧ w = x) := by
  obtain ⟨k, h1, h2⟩ := rn_lenO (ts := ts) ho hq ht h
  exact (op_run hok hsel h2).mono fun u x ⟨e1, e2⟩ => ⟨k, e1, h1, e2.symm⟩
/-- lt holds just what g has. -/
def Full (g : K → Option V) (lt : List (K × V)) : Prop := (lt.map (·.1)).Nodup ∧ ∀ a v, g a = some v ↔ (a, v) ∈ lt
theorem getK_mem : ∀ (l : List (K × Value)) (a : K) (u : Value), (l.map (·.1)).Nodup → (getK l a = some u ↔ (a, u) ∈ l)
  | [], a, u, _ => by simp
  | p :: r, a, u, h => by
    rw [List.map_cons, List.nodup_cons] at h
    have ih := getK_mem r a u h.2
    rw [getK_cons]
    by_cases e1 : a = p.1
    · rw [if_pos e1]
      constructor
      · intro h1
        have : p.2 = u := Option.some.inj h1
        exact List.mem_cons.2 (.inl (Prod.ext e1 this.symm))
      · intro h1
        rcases List.mem_cons.1 h1 with h2 | h2
        · rw [← h2]
        · exact absurd (e1 ▸ List.mem_map_of_mem (f := (·.1)) h2) h.1
    · rw [if_neg e1, ih]
      constructor
      · exact fun h1 => List.mem_cons_of_mem _ h1
      · intro h1
        rcases List.mem_cons.1 h1 with h2 | h2
        · exact absurd (by rw [← h2]) e1
        · exact h2
omit [DecidableEq K] in
theorem typed_list (g : K → Option V) (enc : V → Value) : ∀ (l : List (K × Value)), (∀ p ∈ l, (g p.1).map enc = some p.2) → ∃ lt : List (K × V), l = lt.map (fun p => (p.1, enc p.2)) ∧ ∀ p ∈ lt, g p.1 = some p.2
  | [], _ => ⟨[], rfl, by simp⟩
  | p :: r, h => by
    obtain ⟨lt, h1, h2⟩ := typed_list g enc r (fun y hy => h y (List.mem_cons_of_mem _ hy))
    have hp := h p (by simp)
    cases hg : g p.1 with
    | none => rw [hg] at hp; cases hp
    | some v =>
      rw [hg] at hp
      have hv : enc v = p.2 := Option.some.inj hp
      refine ⟨(p.1, v) :: lt, by rw [List.map_cons, ← h1, hv], fun y hy => ?_⟩
      rcases List.mem_cons.1 hy with rfl | hy
      · exact hg
      · exact h2 y hy
theorem MapO.list (h : MapO kv enc w B g c) : ∃ lt : List (K × V), MapB kv w B (lt.map fun p => (p.1, enc p.2)) ∧ Full g lt ∧ lt.length ≤ c := by
  obtain ⟨l, h1, h2, h3⟩ := h
  have hn := h1.keys
  obtain ⟨lt, e1, e2⟩ := typed_list g enc l (fun p hp => by rw [← h2]; exact (getK_mem l p.1 p.2 hn).2 hp)
  subst e1
  have hn' : (lt.map (·.1)).Nodup := by rw [List.map_map] at hn; exact hn
  refine ⟨lt, h1, ⟨hn', fun a v => ⟨fun hg => ?_, fun hm => e2 _ hm⟩⟩, by simpa using h3⟩
  have h4 := h2 a
  rw [hg] at h4
  have h5 := (getK_mem _ a (enc v) hn).1 h4
  obtain ⟨p, hp, hq⟩ := List.mem_map.1 h5
  have e3 : p.1 = a := (Prod.mk.inj hq).1
  have e4 := e2 p hp
  rw [e3, hg] at e4
  have : v = p.2 := Option.some.inj e4
  rw [← e3, this]; exact hp
/-- A range over it, what is still to come told as keys and values. -/
def IterO (kv : K → Value) (enc : V → Value) (w : World) (r B : Nat) (left : List (K × V)) : Prop := IterB kv w r B (left.map fun p => (p.1, enc p.2))
omit [DecidableEq K] in
theorem IterO.lt (h : IterO kv enc w r B left) : r < w.heap.size := IterB.lt h
omit [DecidableEq K] in
theorem IterO.kept {row : Option Nat} (h : IterO kv enc w r B left) (hg : w.grownBy x row) (h1 : row ≠ some B) (h2 : row ≠ some r) : IterO kv enc x r B left := IterB.kept h hg h1 h2
omit [DecidableEq K] in
theorem IterO.row {B' : Nat} {T : TypeId} {sz k : Nat} {u : Value} {xs : List Value} (h : IterO kv enc w r B left) (hr : w.ownsRow B' T sz u k xs) : u.ownBlock ≠ some B ∧ u.ownBlock ≠ some r := IterB.row h hr
theorem op_rangeO (a : K) (ho : o.op = .range t q) (hq : ev m q = some (.map (some B))) (ht : P.underlying t = some (.map kt e)) (h : MapO kv enc w B g c) :
    Op1 P n m o w (fun u x => ∃ r, u = .pointer (some ⟨r, 0, none⟩) ∧ r = w.heap.size ∧ x.heap.size = r + 1 ∧ (∃ lt : List (K × V), IterO kv enc x r B lt ∧ Full g lt ∧ lt.length ≤ c) ∧ w.grownBy x none) := by
  obtain ⟨lt, h1, h2, h3⟩ := h.list
  exact (op_range (a := a) ho hq ht h1).mono fun u x ⟨r, k1, k2, k3, k4, k5⟩ => ⟨r, k1, k2, k4, ⟨lt, k3, h2, h3⟩, k5⟩
omit [DecidableEq K] in
theorem op_nextO (ho : o.op = .next q false) (hq : ev m q = some (.pointer (some ⟨r, 0, none⟩))) (h : IterO kv enc w r B left) :
    Op1 P n m o w (fun u x => (left = [] ∧ u = .tuple #[.bool false] ∧ w = x) ∨
      ∃ p l1 l2, left = l1 ++ p :: l2 ∧ u = .tuple #[.bool true, kv p.1, enc p.2] ∧ IterO kv enc x r B (l1 ++ l2) ∧ (Instr.entry (.pointer (some ⟨r, 0, none⟩))).run P x = .ok (.tuple #[kv p.1, enc p.2]) x ∧ x.heap.size = w.heap.size ∧ w.grownBy x (some r)) :=
  (op_next ho hq h).mono fun u x hx => by
    rcases hx with ⟨h1, h2, h3⟩ | ⟨p, l1, l2, h1, h2, h3, h4, h5, h6⟩
    · exact .inl ⟨List.map_eq_nil_iff.1 h1, h2, h3.symm⟩
    · obtain ⟨k1, k2', e1, e2, e3⟩ := List.map_eq_append_iff.1 h1
      obtain ⟨p', k2, e4, e5, e6⟩ := List.map_eq_cons_iff.1 e3
      subst e1 e4 e2 e5 e6
      exact .inr ⟨p', k1, k2, rfl, h2, by unfold IterO; rw [List.map_append]; exact h3, h4, h5, h6⟩
end
section
variable {P : Program} {n : Nat} {m : List (Nat × Value)} {w : World} {o : Oper}
/-- make of no element, room for k: the call's own row. -/
theorem op_makeOwn {α : Type} {enc : α → List Value} {p q : Operand} {base k : Nat} {t e : TypeId} {z : Value} {size by_ : Nat} (ho : o.op = .makeSlice t p q) (hp : ev m p = some (.int .i64 0)) (hq : ev m q = some (.int .i64 ((k : Nat) : Int)))
    (h1 : P.underlying t = some (.slice e)) (hi : (P.info? e).map (fun i => (i.zero, i.size, i.bytes)) = some (some z, size, by_)) (b2 : by_ * k ≤ 281474976710656) (b3 : k ≤ maxLen) (b4 : base ≤ w.heap.size) :
    Op1 P n m o w (fun u x => ∃ N, u = .slice (some ⟨N, 0, none⟩) 0 k ∧ N = w.heap.size ∧ x.ownsRow base e size (.slice (some ⟨N, 0, none⟩) 0 k) ([] : List α).length (([] : List α).flatMap enc) ∧ w.grownBy x none) := by
  intro ac ha N Q hN
  obtain ⟨i, h2, h3, h4, h5⟩ := info_parts hi
  subst h5
  obtain ⟨x, hx, k1, k2⟩ := run_make_own (P := P) w base t e i z size h1 h2 h3 h4 .i64 .i64 k b2 b3 b4
  unfold Oper.wp
  simp [execOp, ho, ha.ev hp, ha.ev hq, hx, Result.andThen]
  exact hN _ _ ⟨w.heap.size, rfl, rfl, k1, k2⟩
end
end Go.Proofs.YtfiplhnplmadmaaDoor

/- A world that is as another was, but for some blocks. Conditions: none. -/
namespace Go.Proofs.YtfiplhnplmadmaaDoor
open Go.RowKit

/-- What was there is as it was, but for the blocks that S tells. -/
structure But (S : Nat → Prop) (w w' : World) : Prop where
  os : w'.os = w.os
  tape : w'.tape = w.tape
  output : w'.output = w.output
  size : w.heap.size ≤ w'.heap.size
  block : ∀ k, k < w.heap.size → ¬ S k → w'.heap[k]? = w.heap[k]?

theorem But.refl (S : Nat → Prop) (w : World) : But S w w := ⟨rfl, rfl, rfl, Nat.le_refl _, fun _ _ _ => rfl⟩
theorem But.trans {S : Nat → Prop} {a b c : World} (h : But S a b) (k : But S b c) : But S a c :=
  ⟨k.os.trans h.os, k.tape.trans h.tape, k.output.trans h.output, Nat.le_trans h.size k.size, fun i hi hs => (k.block i (Nat.lt_of_lt_of_le hi h.size) hs).trans (h.block i hi hs)⟩
theorem But.mono {S S' : Nat → Prop} {w w' : World} (h : But S w w') (hs : ∀ k, k < w.heap.size → S k → S' k) : But S' w w' :=
  ⟨h.os, h.tape, h.output, h.size, fun k hk hn => h.block k hk (fun h1 => hn (hs k hk h1))⟩
theorem But.of_below {S : Nat → Prop} {w w' : World} (h : Below w.heap.size w w') : But S w w' := ⟨h.os, h.tape, h.output, h.size, fun k hk _ => h.block k hk⟩
theorem But.below {S : Nat → Prop} {w w' : World} {B : Nat} (h : But S w w') (hB : B ≤ w.heap.size) (hs : ∀ k, k < w.heap.size → S k → B ≤ k) : Below B w w' :=
  ⟨h.os, h.tape, h.output, h.size, fun k hk => h.block k (by omega) (fun h1 => by have := hs k (by omega) h1; omega)⟩
/-- Two steps, the second one over blocks that may be new. -/
theorem But.trans' {S S' : Nat → Prop} {a b c : World} (h : But S a b) (k : But S' b c) (hs : ∀ i, i < a.heap.size → S' i → S i) : But S a c :=
  ⟨k.os.trans h.os, k.tape.trans h.tape, k.output.trans h.output, Nat.le_trans h.size k.size, fun i hi hn => (k.block i (Nat.lt_of_lt_of_le hi h.size) (fun h1 => hn (hs i hi h1))).trans (h.block i hi hn)⟩
/-- From below B on: what turns are blocks from B on. -/
theorem below_but {S : Nat → Prop} {B : Nat} {a b c : World} (h : Below B a b) (k : But S b c) (hB : B ≤ b.heap.size) (hs : ∀ i, i < b.heap.size → S i → B ≤ i) : Below B a c := h.trans (k.below hB hs)
theorem But.alloc {S : Nat → Prop} {a w : World} (h : But S a w) (o : Obj) : But S a (w.alloc o) :=
  h.trans ⟨rfl, rfl, rfl, by simp, fun k hk _ => Below.heap_alloc _ _ _ hk⟩
theorem But.drew {S : Nat → Prop} {a w : World} (h : But S a w) : But S a w.drew := ⟨h.os, h.tape, h.output, h.size, h.block⟩
theorem But.setCell {S : Nat → Prop} {a w : World} (h : But S a w) {p : Addr} (hp : p.block < a.heap.size → S p.block) (u : Value) : But S a (w.setCell p u) :=
  h.trans' (S' := fun k => k = p.block) ⟨rfl, rfl, rfl, by simp [World.setCell], fun k _ hn => Below.heap_setCell _ _ _ _ hn⟩ (fun i hi e => by subst e; exact hp hi)
theorem But.cell {S : Nat → Prop} {w w' : World} (h : But S w w') {a : Addr} {v : Value} (hs : ¬ S a.block) (hc : w.cell? a = some v) : w'.cell? a = some v := by
  rw [World.cell?_of_block (w := w) (h.block _ (World.block_lt_of_cell? w a hc) hs)]; exact hc
theorem But.frozen {S : Nat → Prop} {w w' : World} (h : But S w w') {a : Addr} (hl : a.block < w.heap.size) (hs : ¬ S a.block) : w'.frozen? a = w.frozen? a := World.frozen?_of_block (w := w) (h.block _ hl hs)
/-- A store into one block. -/
theorem But.store {a w : World} {b : Nat} (h : But (fun x => x = b) a w) (o : Nat) (u : Value) : But (fun x => x = b) a (w.setCell ⟨b, o, none⟩ u) :=
  h.setCell (p := ⟨b, o, none⟩) (fun _ => rfl) u
end Go.Proofs.YtfiplhnplmadmaaDoor

/- 'append(row, text...)' in a region that draws its order. Conditions: none. -/
namespace Go.Proofs.YtfiplhnplmadmaaDoor
open Go.RowKit

theorem row_low {w : World} {B B' : Nat} {e : TypeId} {k : Nat} {v : Value} {n : Nat} {xs : List Value} (h : w.ownsRow B e k v n xs) (hB : B' ≤ B) : w.ownsRow B' e k v n xs := by
  obtain ⟨h1, h2⟩ := h
  refine ⟨h1, ?_⟩
  rcases h2 with h2 | ⟨g, cap, cur, hv, hg, r⟩
  · exact Or.inl h2
  · exact Or.inr ⟨g, cap, cur, hv, Nat.le_trans hB hg, r⟩
/-- An append of a text: the row stays in its block, or goes into a new one. -/
theorem run_append_str_fresh {P : Program} (w : World) (base : Nat) (t u ty e : TypeId) (i : TypeInfo) (ht : P.underlying t = some (.slice e)) (hu : P.underlying u = some .string) (hi : P.info? e = some i) (hz : i.zero = some (.int .u8 0))
    (hsize : i.size = 1) (hby : i.bytes = 1)
    (v : Value) (n : Nat) (xs : List Value) (hown : w.ownsRow base e 1 v n xs) (s : ByteArray)
    (h63 : n + s.size ≤ maxLen) (hbytes : n + s.size ≤ 140737488355328) (hbase : base ≤ w.heap.size) :
    ∃ v' w', (Builtin.append_ #[t, u] ty #[v, .string s]).run P w = .ok v' w' ∧ w'.ownsRow base e 1 v' (n + s.size) (xs ++ Lib.strCells s) ∧ w.grownBy w' v.ownBlock ∧
      (v'.ownBlock = v.ownBlock ∨ ∀ k, v'.ownBlock = some k → w.heap.size ≤ k) := by
  have hsmall : n + s.size ≤ 9223372036854775807 := by simp only [maxLen] at h63; omega
  have hxl : xs.length = n := by simpa using hown.1
  have hown2 := hown
  rcases hown.2 with ⟨rfl, rfl⟩ | ⟨g, cap, cur, rfl, hbg, hg, hnc, hcm, hcs, htake⟩
  · have h0 : w.ownsRow w.heap.size e 1 (.slice none 0 0) 0 xs := ⟨hown.1, Or.inl ⟨rfl, rfl⟩⟩
    obtain ⟨v', w', hr, h2, h3, _⟩ := Lib.run_append_own_string (P := P) w w.heap.size t u ty e i ht hu hi hz hsize hby _ 0 xs h0 s h63 hbytes (Nat.le_refl _)
    exact ⟨v', w', hr, row_low h2 hbase, h3, Or.inr (fun k hk => (h2.lt k hk).1)⟩
  · obtain ⟨v', w', hr, h2, h3, _⟩ := Lib.run_append_own_string (P := P) w base t u ty e i ht hu hi hz hsize hby _ n xs hown s h63 hbytes hbase
    refine ⟨v', w', hr, h2, h3, ?_⟩
    by_cases hroom : n + s.size ≤ cap
    · have hcs' : cur.size = cap := by simpa using hcs
      have hr2 := Lib.run_append_room_string (P := P) w t u ty e i ht hu hi hsize g n cap cur hg s hroom (by omega)
      rw [hr] at hr2
      simp only [Result.ok.injEq] at hr2
      rw [hr2.1]
      exact Or.inl rfl
    · have holds : ∀ j u, xs[j]? = some u → w.cell? ((⟨g, 0, none⟩ : Addr).add j) = some u := hown2.cells (g := g) rfl
      have hr2 := Lib.run_append_grow_string (P := P) w t u ty e i (.int .u8 0) ht hu hi hz ⟨g, 0, none⟩ n cap xs (by rw [hsize]; simpa using hxl) holds s (by omega) (by omega) (by rw [hby]; exact growslice_fits (by omega) (by omega))
      rw [hr] at hr2
      simp only [Result.ok.injEq] at hr2
      rw [hr2.1]
      exact Or.inr (fun k hk => by simp [Value.ownBlock] at hk; omega)
end Go.Proofs.YtfiplhnplmadmaaDoor

/- Steps of a walk over an object's own parts: effects upon a set of blocks, appends that tell where the row went, bytes, maps looked up, rows and maps cleared. Conditions: none. -/
namespace Go.Proofs.YtfiplhnplmadmaaDoor
open Go.RowKit

section
variable {P : Program} {n : Nat} {m : List (Nat × Value)} {w x w0 : World} {o : Oper} {N : Nat} {T : TypeId} {cs : Array Value} {S : Nat → Prop} {v u : Value} {k : Nat}
theorem grown_butU {row : Option Nat} (hg : w.grownBy x row) : But (fun k => row = some k) w x := ⟨hg.os, hg.tape, hg.output, hg.size, fun k hk hn => hg.block k hk (fun e => hn e.symm)⟩
theorem fbU_new (h : But S w0 w) (hg : w.grownBy x none) : But S w0 x := h.trans (But.of_below (grown_below hg))
theorem fbU_at (h : But S w0 w) (hg : w.grownBy x (some N)) (hN : N < w0.heap.size → S N) : But S w0 x :=
  h.trans' (S' := fun k => some N = some k) (grown_butU hg) (fun i hi e => by cases e; exact hN hi)
/-- Where a row lies: in S, or it was made since a world of n blocks. -/
def InS (S : Nat → Prop) (n : Nat) (v : Value) : Prop := ∀ k, v.ownBlock = some k → S k ∨ n ≤ k
theorem fbU_row (h : But S w0 w) (hi : InS S w0.heap.size v) (hg : w.grownBy x v.ownBlock) : But S w0 x :=
  h.trans' (S' := fun k => v.ownBlock = some k) (grown_butU hg) (fun i hi' e => by
    rcases hi i e with h1 | h1
    · exact h1
    · omega)
theorem row_under {B sz q : Nat} {e : TypeId} {xs : List Value} (h : w.ownsRow B e sz v q xs) (hN : N = w.heap.size) : ∀ i, v.ownBlock = some i → i < N := fun i hi => by have := (h.lt i hi).2; omega
/-- The row stayed in its block, or went into a new one. -/
def Went (w : World) (v u : Value) : Prop := u.ownBlock = v.ownBlock ∨ ∀ k, u.ownBlock = some k → w.heap.size ≤ k
theorem InS.went (h : InS S k v) (hf : Went w v u) (hn : k ≤ w.heap.size) : InS S k u := fun i hi => by
  rcases hf with e | e
  · exact h i (e ▸ hi)
  · exact .inr (Nat.le_trans hn (e i hi))
theorem InS.nil : InS S k (.slice none 0 0) := fun i hi => by simp [Value.ownBlock] at hi
theorem InS.of (h : ∀ i, v.ownBlock = some i → S i) : InS S k v := fun i hi => .inl (h i hi)
theorem InS.low {B : Nat} {e : TypeId} {sz q : Nat} {xs : List Value} (h : w.ownsRow B e sz v q xs) (hB : k ≤ B) : InS S k v := fun i hi => .inr (Nat.le_trans hB (h.lt i hi).1)
/-- What S grows to. -/
def grow' (S : Nat → Prop) (a b : Nat) : Nat → Prop := fun q => S q ∨ (a ≤ q ∧ q < b)
theorem InS.fin {e : TypeId} {sz q B : Nat} {xs : List Value} (h : InS S k v) (hr : w.ownsRow B e sz v q xs) : ∀ i, v.ownBlock = some i → grow' S k w.heap.size i := fun i hi => by
  rcases h i hi with h1 | h1
  · exact .inl h1
  · exact .inr ⟨h1, (hr.lt i hi).2⟩

theorem run_append_went {P : Program} (w : World) (base : Nat) (t ty e : TypeId) (i : TypeInfo) (z : Value) (size bytes : Nat) (ht : P.underlying t = some (.slice e)) (hi : P.info? e = some i) (hz : i.zero = some z)
    (hsize : i.size = size) (hby : i.bytes = bytes) (hzs : z.cells.size = size) (hsz : 0 < size) (v : Value) (n : Nat) (xs : List Value) (hown : w.ownsRow base e size v n xs)
    (a : Addr) (m c : Nat) (news : List Value) (hl : news.length = m * size) (hnews : ∀ j u, news[j]? = some u → w.cell? (a.add j) = some u) (h1 : ∀ u ∈ news, u.oneCell' = true)
    (h63 : n + m ≤ maxLen) (hbytes : (n + m) * bytes ≤ 140737488355328) (hbase : base ≤ w.heap.size) :
    ∃ v' w', (Builtin.append_ #[t, t] ty #[v, .slice (some a) m c]).run P w = .ok v' w' ∧ w'.ownsRow base e size v' (n + m) (xs ++ news) ∧ w.grownBy w' v.ownBlock ∧ Went w v v' := by
  have hsmall : n + m ≤ 9223372036854775807 := by simp only [maxLen] at h63; omega
  rcases hown.2 with ⟨rfl, rfl⟩ | ⟨g, cap, cur, rfl, hbg, hg, hnc, hcm, hcs, htake⟩
  · have h0 : w.ownsRow w.heap.size e size (.slice none 0 0) 0 xs := ⟨hown.1, Or.inl ⟨rfl, rfl⟩⟩
    obtain ⟨v', w', hr, h2, h3, _⟩ := run_append_own (P := P) w w.heap.size t ty e i z size bytes ht hi hz hsize hby hzs hsz _ 0 xs h0 a m c news hl hnews h1 h63 hbytes (Nat.le_refl _)
    exact ⟨v', w', hr, row_low h2 hbase, h3, Or.inr (fun k hk => (h2.lt k hk).1)⟩
  · obtain ⟨v', w', hr, h2, h3, _⟩ := run_append_own (P := P) w base t ty e i z size bytes ht hi hz hsize hby hzs hsz _ n xs hown a m c news hl hnews h1 h63 hbytes hbase
    refine ⟨v', w', hr, h2, h3, ?_⟩
    by_cases hroom : n + m ≤ cap
    · have hfit : n * i.size + news.length ≤ cur.size := by
        rw [hl, hcs, hsize, ← Nat.add_mul]; exact Nat.mul_le_mul_right _ hroom
      have hr2 := run_append_room (P := P) w t ty e i ht hi g n cap cur hg a m c news (by rw [hsize]; exact hl) hnews h1 hroom hfit
      rw [hr] at hr2
      simp only [Result.ok.injEq] at hr2
      rw [hr2.1]
      exact Or.inl rfl
    · have holds : ∀ j u, xs[j]? = some u → w.cell? ((⟨g, 0, none⟩ : Addr).add j) = some u := hown.cells (g := g) rfl
      have hr2 := run_append_grow (P := P) w t ty e i z ht hi hz ⟨g, 0, none⟩ n cap xs (by rw [hsize]; exact hown.1) holds a m c news (by rw [hsize]; exact hl) hnews (by omega) (by omega) (by rw [hby]; exact growslice_fits (by omega) hbytes)
      rw [hr] at hr2
      simp only [Result.ok.injEq] at hr2
      rw [hr2.1]
      exact Or.inr (fun k hk => by simp [Value.ownBlock] at hk; omega)
theorem op_appendF {s q : Operand} {t : TypeId} (ho : o.op = .call { callee := .builtin .append, args := #[s, q], argTypes := #[t, t] })
    (base : Nat) (e : TypeId) {z : Value} {size bytes : Nat} (ht : P.underlying t = some (.slice e)) (hi : (P.info? e).map (fun i => (i.zero, i.size, i.bytes)) = some (some z, size, bytes))
    (hzs : z.cells.size = size) (hsz : Nat.blt 0 size = true) {k : Nat} {xs : List Value} (hs : ev m s = some v) (hown : w.ownsRow base e size v k xs)
    {M q' c : Nat} {ws : Array Value} {T' : TypeId} (hx : ev m q = some (.slice (some ⟨M, 0, none⟩) q' c)) (hb : Blk w M T' ws) (hl : ws.size = q' * size) (h1 : ws.all (·.oneCell') = true)
    (h63 : k + q' ≤ 9223372036854775807) (hbytes : (k + q') * bytes ≤ 140737488355328) (hbase : base ≤ w.heap.size) :
    Op1 P n m o w (fun u x => x.ownsRow base e size u (k + q') (xs ++ ws.toList) ∧ Went w v u ∧ w.grownBy x v.ownBlock) := by
  intro a ha K Q hN
  obtain ⟨i0, hii, hz0, hz1, hz2⟩ := info_parts hi
  obtain ⟨v', w', hr, h2, h3, h4⟩ := run_append_went (P := P) w base t o.type e i0 z size bytes ht hii hz0 hz1 hz2 hzs (by simpa using hsz) v k xs hown ⟨M, 0, none⟩ q' c ws.toList (by simpa using hl)
    (fun j u hu => by rw [Addr.add_lit, Nat.zero_add]; exact hb.cell (by simpa using hu)) (fun u hu => (Array.all_eq_true_iff_forall_mem.1 h1) u (by simpa using hu)) (by unfold maxLen; exact h63) hbytes hbase
  unfold Oper.wp execOp
  simp only [ho, resolve, invoke, builtin, Sem.run_bind, Sem.run_pure, Result.andThen_ok, List.map_toArray, List.map_cons, List.map_nil, ha.ev hs, ha.ev hx, hr]
  exact hN _ _ ⟨h2, h4, h3⟩
theorem strOfNums_bytesU (l : List UInt8) : strOfNums (l.map fun b => ((b.toNat : Nat) : Int)) = ⟨l.toArray⟩ := by
  apply ByteArray.ext
  apply Array.toList_inj.1
  rw [strOfNums_data, List.map_map]
  show _ = l
  have : ((fun n : Int => UInt8.ofNat n.toNat) ∘ fun b : UInt8 => ((b.toNat : Nat) : Int)) = id := by
    funext b
    simp
  rw [this, List.map_id]
/-- Bytes. -/
def u8E (b : UInt8) : List Value := [.int .u8 ((b.toNat : Nat) : Int)]
theorem u8E_len (b : UInt8) : (u8E b).length = 1 := rfl
theorem flat_u8 : ∀ l : List UInt8, l.flatMap u8E = l.map fun b => Value.int .u8 ((b.toNat : Nat) : Int)
  | [] => rfl
  | b :: r => by rw [List.flatMap_cons, List.map_cons, flat_u8 r]; rfl
theorem strCells_flat (s : ByteArray) : Lib.strCells s = s.data.toList.flatMap u8E := by rw [flat_u8]; rfl
theorem op_appendStrF {sl q : Operand} {t t' : TypeId} (ho : o.op = .call { callee := .builtin .append, args := #[sl, q], argTypes := #[t, t'] })
    (base : Nat) (e : TypeId) (ht : P.underlying t = some (.slice e)) (hu : P.underlying t' = some .string) (hi : (P.info? e).map (fun i => (i.zero, i.size, i.bytes)) = some (some (.int .u8 0), 1, 1))
    {l : List UInt8} (hs : ev m sl = some v) (hown : w.ownsRow base e 1 v l.length (l.flatMap u8E)) {s : ByteArray} (hx : ev m q = some (.string s))
    (h63 : l.length + s.size ≤ 140737488355328) (hbase : base ≤ w.heap.size) :
    Op1 P n m o w (fun u x => x.ownsRow base e 1 u (l ++ s.data.toList).length ((l ++ s.data.toList).flatMap u8E) ∧ Went w v u ∧ w.grownBy x v.ownBlock) := by
  intro a ha K Q hN
  obtain ⟨i0, hii, hz0, hz1, hz2⟩ := info_parts hi
  obtain ⟨v', w', hr, h2, h3, h4⟩ := run_append_str_fresh (P := P) w base t t' o.type e i0 ht hu hii hz0 hz1 hz2 v l.length (l.flatMap u8E) hown s (by unfold maxLen; omega) h63 hbase
  unfold Oper.wp execOp
  simp only [ho, resolve, invoke, builtin, Sem.run_bind, Sem.run_pure, Result.andThen_ok, List.map_toArray, List.map_cons, List.map_nil, ha.ev hs, ha.ev hx, hr]
  refine hN _ _ ⟨?_, h4, h3⟩
  rw [List.length_append, List.flatMap_append, ← strCells_flat]
  have e1 : s.data.toList.length = s.size := rfl
  rw [e1]; exact h2
theorem rn_convOwn {src dst e : TypeId} {q : Operand} {l : List UInt8} {base : Nat} (ho : o.op = .convert src dst q) (hq : ev m q = some v) (hs : P.underlying src = some (.slice e)) (he : P.underlying e = some (.int .u8)) (hd : P.underlying dst = some .string)
    (h : w.ownsRow base e 1 v l.length (l.flatMap u8E)) : (execOp (lk m) o).run P w = .ok (.value (.string ⟨l.toArray⟩)) w := by
  have hrun : (convert src dst v).run P w = .ok (.string ⟨l.toArray⟩) w := by
    rcases h.2 with ⟨rfl, h0⟩ | ⟨g, cap, cur, rfl, hbg, hg, hnc, hcm, hcs, htake⟩
    · have := run_convert_bytes_nil (P := P) (w := w) src e hs he 0 0 dst hd
      obtain rfl : l = [] := List.eq_nil_of_length_eq_zero h0
      exact this
    · rw [← strOfNums_bytesU]
      refine run_convert_bytes_arg w src e hs he g 0 l.length cap _ (by simp) (fun i hi => ?_) dst hd
      have hc := h.cells (g := g) rfl i (.int .u8 ((l[i].toNat : Nat) : Int)) (by rw [flat_u8, List.getElem?_map, List.getElem?_eq_getElem hi]; rfl)
      rw [Addr.add_lit] at hc
      rw [hc]; simp [List.getD, hi]
  unfold execOp
  simp only [ho, lk_ev hq, Sem.run_bind, hrun, Result.andThen_ok, Sem.run_pure]
end
section
variable {K V : Type} [DecidableEq K] {P : Program} {n : Nat} {m : List (Nat × Value)} {w x : World} {o : Oper} {B r c : Nat} {kv : K → Value} {enc : V → Value} {g : K → Option V} {kt e t : TypeId} {q s : Operand} {a : K} {v : V}
theorem rn_lookO {f : V} {z : V} (KK : KL P kt kv) (ho : o.op = .lookup t q s false) (hq : ev m q = some (.map (some B))) (hr : ev m s = some (kv a)) (ht : P.underlying t = some (.map kt e)) (hz : ∀ w : World, (zeroValue e).run P w = .ok (enc z) w) (h : MapO kv enc w B g c) (hf : (g a).getD z = f) :
    (execOp (lk m) o).run P w = .ok (.value (enc f)) w := by
  obtain ⟨l, h1, h2, _⟩ := h
  have h3 := rn_look (a := a) KK ho hq hr ht hz h1
  rw [h3, h2 a, ← hf]
  cases g a <;> rfl
end
section
variable {P : Program} {n : Nat} {m : List (Nat × Value)} {w : World} {o : Oper} {v : Value} {α : Type} {enc : α → List Value} {l : List α} {sz base : Nat} {T : TypeId}
end
end Go.Proofs.YtfiplhnplmadmaaDoor

/- slices.Sort on a row of ints that the call owns: what the row holds behind it. Conditions: none. -/
namespace Go.Proofs.YtfiplhnplmadmaaDoor
open Go.RowKit Go.Sort Go.Shelf

/-- The numbers, in order. -/
def srt (l : List Int) : List Int := l.mergeSort fun x y => decide (x ≤ y)
theorem srt_perm (l : List Int) : (srt l).Perm l := List.mergeSort_perm l _
theorem srt_len (l : List Int) : (srt l).length = l.length := (srt_perm l).length_eq
theorem srt_up (l : List Int) : (srt l).Pairwise (· ≤ ·) := by
  have h : (srt l).Pairwise (fun a b => decide (a ≤ b) = true) := List.pairwise_mergeSort (le := fun x y => decide (x ≤ y)) (fun a b c h1 h2 => by simp only [decide_eq_true_eq] at *; omega) (fun a b => by simp only [Bool.or_eq_true, decide_eq_true_eq]; omega) l
  exact h.imp (fun h => by simpa using h)
theorem srt_mem {l : List Int} {x : Int} : x ∈ srt l ↔ x ∈ l := (srt_perm l).mem_iff
theorem flat_intsI : ∀ l : List Int, l.flatMap (intE .i64) = l.map (Value.int .i64)
  | [] => rfl
  | x :: r => by rw [List.flatMap_cons, List.map_cons, flat_intsI r]; rfl
theorem holds_ints {w : World} {g : Nat} {e : TypeId} {cur : Array Value} {l : List Int} (hb : w.heap[g]? = some (.cells cur e (0, 0))) (ht : cur.toList.take l.length = l.map (Value.int .i64)) : Holds (Value.int .i64) w g 0 l.toArray := by
  intro j hj
  have hj' : j < l.length := by simpa using hj
  refine ⟨?_, by simp [World.frozen?, hb]⟩
  have h1 : (cur.toList.take l.length)[j]? = some (Value.int .i64 l[j]) := by rw [ht]; simp [hj']
  rw [List.getElem?_take_of_lt hj'] at h1
  simp only [World.cell?, hb, Nat.zero_add]
  simp only [Option.isSome_none, Bool.false_eq_true, if_false]
  rw [← Array.getElem?_toList, h1]
  simp [hj']
theorem heap_putI {w : World} {g n : Nat} {os : Array Obj} {cur : Array Value} {e : TypeId} {fr : Nat × Nat} (d : Array Int) (hb : w.heap[g]? = some (.cells cur e fr)) :
    (grow (putRow (Value.int .i64) (Sort.ahead w n) g 0 d) os).heap[g]? = some (.cells (putCells (Value.int .i64) 0 d cur) e fr) := by
  have hg : g < w.heap.size := (Array.getElem?_eq_some_iff.1 hb).1
  rw [heap_grow_old _ _ (by simpa using hg)]
  simp [putRow, mapBlock, Sort.ahead, Array.getElem?_modify, hb, onCells]
theorem grown_putI {w : World} {g n : Nat} {os : Array Obj} (d : Array Int) : w.grownBy (grow (putRow (Value.int .i64) (Sort.ahead w n) g 0 d) os) (some g) := by
  refine ⟨rfl, rfl, rfl, by simp, fun k hk hne => ?_⟩
  rw [heap_grow_old _ _ (by simpa using hk)]
  have : g ≠ k := fun e => hne (by rw [e])
  simp [putRow, mapBlock, Sort.ahead, Array.getElem?_modify, this]
theorem take_putI (cur : Array Value) (l : List Int) (h : l.length ≤ cur.size) : (putCells (Value.int .i64) 0 l.toArray cur).toList.take l.length = l.map (Value.int .i64) := by
  apply List.ext_getElem?
  intro j
  by_cases hj : j < l.length
  · rw [List.getElem?_take_of_lt hj, Array.getElem?_toList]
    simp [putCells, hj, show j < cur.size by omega]
  · rw [List.getElem?_take_eq_none (by omega), List.getElem?_eq_none (by simp; omega)]
theorem sortI_any (v : Value) (l : List Int) (base : Nat) (e : TypeId) (w : World) (h : w.ownsRow base e 1 v l.length (l.flatMap (intE .i64))) (hn : v ≠ .slice none 0 0) (hl : l.length < 4611686018427387904) :
    Calls Tryd.prog 45 #[v] w fun e1 w' => e1 = .returned (.tuple #[]) ∧ w'.ownsRow base e 1 v (srt l).length ((srt l).flatMap (intE .i64)) ∧ w.grownBy w' v.ownBlock := by
  obtain ⟨h0, h⟩ := h
  rcases h with ⟨rfl, _⟩ | ⟨g, cap, cur, rfl, hbase, hb, h1, h2, h3, h4⟩
  · exact absurd rfl hn
  rw [flat_intsI, Nat.mul_one] at h4
  have hH := holds_ints hb h4
  refine (Any.slices_Sort_int Tryd.laysI g 0 cap l w hH (Array.getElem?_eq_some_iff.1 hb).1 hl).mono ?_
  rintro e1 w' ⟨rfl, n, os, rfl⟩
  have hle : (srt l).length = l.length := srt_len l
  have hcs : l.length ≤ cur.size := by rw [h3, Nat.mul_one]; exact h1
  refine ⟨rfl, ⟨by rw [flat_intsI]; simp, .inr ⟨g, cap, _, by rw [hle], hbase, heap_putI _ hb, by rw [hle]; exact h1, h2, by simp [putCells, h3], ?_⟩⟩, grown_putI _⟩
  rw [flat_intsI, Nat.mul_one]
  exact take_putI cur (srt l) (by rw [hle]; exact hcs)
end Go.Proofs.YtfiplhnplmadmaaDoor

/- Package disk: its parts; Write. Conditions: texts of less than 10^9 bytes. -/
namespace Go.Proofs.YtfiplhnplmadmaaDoor
open Go.RowKit Go.PlainAid
set_option linter.unusedVariables false


abbrev FileM := List UInt8 × Int × Bool
/-- A file: where its bytes lie; the bytes, how many are safe, whether it stays. -/
abbrev FileG := Value × FileM
abbrev PcT := Int × Int
def fileV (f : FileG) : Value := .agg #[f.1, .int .i64 f.2.2.1, .bool f.2.2.2]
def fz : FileG := (.slice none 0 0, [], 0, false)
def mz : FileM := ([], 0, false)
def pieceE (p : PcT) : List Value := [.int .i64 p.1, .int .i64 p.2]
theorem pieceE_len (p : PcT) : (pieceE p).length = 2 := rfl
theorem filez (w : World) : (zeroValue 77).run Tryd.prog w = .ok (fileV fz) w := by kernel_rfl
structure DkS where
  fm : Int → Option FileM
  ps : List PcT
  ser : Int
  boots : Int
/-- The rows of the files' bytes: each file's own, in S or made since a world of n blocks. -/
def Fam (S : Nat → Prop) (n : Nat) (w : World) (g : Int → Option FileG) : Prop :=
  (∀ k f, g k = some f → w.ownsRow 0 5 1 f.1 f.2.1.length (f.2.1.flatMap u8E) ∧ InS S n f.1) ∧ ∀ k k' f f' b, g k = some f → g k' = some f' → f.1.ownBlock = some b → f'.1.ownBlock = some b → k = k'
section
variable {S : Nat → Prop} {n : Nat} {w x : World} {g : Int → Option FileG} {a : Int} {f : FileG} {u : Value}
theorem Fam.at (h : Fam S n w g) (hf : (g a).getD fz = f) : w.ownsRow 0 5 1 f.1 f.2.1.length (f.2.1.flatMap u8E) ∧ InS S n f.1 := by
  cases hg : g a with
  | none => rw [hg] at hf; subst hf; exact ⟨World.ownsRow_nil _ _ _ _, InS.nil⟩
  | some f' => rw [hg] at hf; cases hf; exact h.1 a _ hg
theorem Fam.new (h : Fam S n w g) (hg : w.grownBy x none) : Fam S n x g := ⟨fun k f hf => ⟨row_kept_new (h.1 k f hf).1 hg, (h.1 k f hf).2⟩, h.2⟩
theorem Fam.blk {N : Nat} {T : TypeId} {cs : Array Value} (h : Fam S n w g) (hb : Blk w N T cs) (hT : 5 ≠ T) (hg : w.grownBy x (some N)) : Fam S n x g :=
  ⟨fun k f hf => ⟨row_kept_at (h.1 k f hf).1 hg (own_neT (h.1 k f hf).1 hb hT), (h.1 k f hf).2⟩, h.2⟩
theorem Fam.map {V : Type} {enc : V → Value} {B c : Nat} {g2 : Int → Option V} (h : Fam S n w g) (hm : MapO intK enc w B g2 c) (hg : w.grownBy x (some B)) : Fam S n x g :=
  ⟨fun k f hf => ⟨row_kept_at (h.1 k f hf).1 hg (hm.row (h.1 k f hf).1), (h.1 k f hf).2⟩, h.2⟩
theorem Fam.iter {V : Type} {enc : V → Value} {r B : Nat} {lt : List (Int × V)} (h : Fam S n w g) (hm : IterO intK enc w r B lt) (hg : w.grownBy x (some r)) : Fam S n x g :=
  ⟨fun k f hf => ⟨row_kept_at (h.1 k f hf).1 hg (hm.row (h.1 k f hf).1).2, (h.1 k f hf).2⟩, h.2⟩
theorem Fam.row {B sz q : Nat} {e : TypeId} {v : Value} {xs : List Value} (h : Fam S n w g) (hr : w.ownsRow B e sz v q xs) (hT : 5 ≠ e) (hg : w.grownBy x v.ownBlock) : Fam S n x g :=
  ⟨fun k f hf => ⟨row_kept_row (h.1 k f hf).1 hr hg hT, (h.1 k f hf).2⟩, h.2⟩
/-- One file's bytes were appended to. -/
theorem Fam.app (h : Fam S n w g) (hf : (g a).getD fz = f) {l : List UInt8} {sf : Int} {b0 : Bool} (hw : Went w f.1 u) (hr : x.ownsRow 0 5 1 u l.length (l.flatMap u8E)) (hg : w.grownBy x f.1.ownBlock) (hn : n ≤ w.heap.size) :
    Fam S n x (fun b => if b = a then some (u, l, sf, b0) else g b) := by
  have hF := h.at hf
  have hap : ∀ k f2, k ≠ a → g k = some f2 → ∀ b, f2.1.ownBlock = some b → u.ownBlock ≠ some b := by
    intro k f2 hk hf2 b hb hu
    rcases hw with e | e
    · rw [e] at hu
      cases hga : g a with
      | none => rw [hga] at hf; subst hf; simp [fz, Value.ownBlock] at hu
      | some f' => rw [hga] at hf; cases hf; exact hk (h.2 _ _ _ _ _ hf2 hga hb hu)
    · have h1 := e b hu
      have h2 := ((h.1 k f2 hf2).1.lt b hb).2
      omega
  refine ⟨fun k f2 hk => ?_, fun k k' f2 f3 b h2 h3 hb2 hb3 => ?_⟩
  · replace hk : (if k = a then some (u, l, sf, b0) else g k) = some f2 := hk
    by_cases e : k = a
    · rw [if_pos e] at hk; cases hk; exact ⟨hr, hF.2.went hw hn⟩
    · rw [if_neg e] at hk
      refine ⟨(h.1 k f2 hk).1.kept hg ?_, (h.1 k f2 hk).2⟩
      cases hb : f2.1.ownBlock with
      | none => exact .inl rfl
      | some b =>
        refine .inr (fun e2 => ?_)
        cases hga : g a with
        | none => rw [hga] at hf; subst hf; simp [fz, Value.ownBlock] at e2
        | some f' => rw [hga] at hf; cases hf; exact e (h.2 _ _ _ _ _ hk hga hb e2.symm)
  · replace h2 : (if k = a then some (u, l, sf, b0) else g k) = some f2 := h2
    replace h3 : (if k' = a then some (u, l, sf, b0) else g k') = some f3 := h3
    by_cases e : k = a
    · by_cases e' : k' = a
      · rw [e, e']
      · rw [if_pos e] at h2; rw [if_neg e'] at h3; cases h2
        exact absurd hb2 (hap k' f3 e' h3 b hb3)
    · by_cases e' : k' = a
      · rw [if_neg e] at h2; rw [if_pos e'] at h3; cases h3
        exact absurd hb3 (hap k f2 e h2 b hb2)
      · rw [if_neg e] at h2; rw [if_neg e'] at h3; exact h.2 _ _ _ _ _ h2 h3 hb2 hb3
/-- One file's slice stays or is cut; what else is told of it is told anew. -/
theorem Fam.put (h : Fam S n w g) (hf : (g a).getD fz = f) {l : List UInt8} {sf : Int} {b0 : Bool} (hr : w.ownsRow 0 5 1 u l.length (l.flatMap u8E)) (hu : u.ownBlock = f.1.ownBlock) :
    Fam S n w (fun b => if b = a then some (u, l, sf, b0) else g b) := by
  have hF := h.at hf
  refine ⟨fun k f2 hk => ?_, fun k k' f2 f3 b h2 h3 hb2 hb3 => ?_⟩
  · replace hk : (if k = a then some (u, l, sf, b0) else g k) = some f2 := hk
    by_cases e : k = a
    · rw [if_pos e] at hk; cases hk; exact ⟨hr, fun i hi => hF.2 i (hu ▸ hi)⟩
    · rw [if_neg e] at hk; exact h.1 k f2 hk
  · have key : ∀ k f4, (if k = a then some (u, l, sf, b0) else g k) = some f4 → f4.1.ownBlock = some b → ∃ f5, g k = some f5 ∧ f5.1.ownBlock = some b := by
      intro k f4 h4 hb4
      by_cases e : k = a
      · rw [if_pos e] at h4; cases h4
        rw [hu] at hb4
        subst e
        cases hga : g k with
        | none => rw [hga] at hf; subst hf; simp [fz, Value.ownBlock] at hb4
        | some f' => rw [hga] at hf; cases hf; exact ⟨_, rfl, hb4⟩
      · rw [if_neg e] at h4; exact ⟨_, h4, hb4⟩
    obtain ⟨f5, h5, hb5⟩ := key k f2 h2 hb2
    obtain ⟨f6, h6, hb6⟩ := key k' f3 h3 hb3
    exact h.2 _ _ _ _ _ h5 h6 hb5 hb6
theorem Fam.none : Fam S n w (fun _ => Option.none) := ⟨fun k f h => (by cases h), fun k k' f f' b h => (by cases h)⟩
theorem blk_ne_map {V : Type} {enc : V → Value} {N B c : Nat} {T : TypeId} {cs : Array Value} {g2 : Int → Option V} (hb : Blk w N T cs) (hm : MapO intK enc w B g2 c) : N ≠ B := by
  intro e; subst e
  obtain ⟨l, ⟨es, cl, h1, _⟩, _⟩ := hm
  have := hb.symm.trans h1
  cases this
end
/-- A disk that was made, with all its parts. -/
structure DkP (S : Nat → Prop) (n : Nat) (w : World) (d M : Nat) (pv : Value) (g : Int → Option FileG) (c : Nat) (s : DkS) : Prop where
  blk : Blk w d 66 #[.bool true, .map (some M), pv, .int .i64 s.ser, .int .i64 s.boots]
  map : MapO intK fileV w M g c
  row : w.ownsRow 0 74 2 pv s.ps.length (s.ps.flatMap pieceE)
  fam : Fam S n w g
  sd : S d ∨ n ≤ d
  sM : S M ∨ n ≤ M
  sp : InS S n pv
  rel : ∀ k, (g k).map (·.2) = s.fm k
def getF (fm : Int → Option FileM) (a : Int) : FileM := (fm a).getD mz
theorem getF_eq {g : Int → Option FileG} {fm : Int → Option FileM} (h : ∀ k, (g k).map (·.2) = fm k) {a : Int} {f : FileG} (hf : (g a).getD fz = f) : f.2 = getF fm a := by
  unfold getF; rw [← h a, ← hf]; cases g a <;> rfl
def putF (fm : Int → Option FileM) (a : Int) (m : FileM) : Int → Option FileM := fun b => if b = a then some m else fm b
theorem putF_eq {g : Int → Option FileG} {fm : Int → Option FileM} (h : ∀ k, (g k).map (·.2) = fm k) {a : Int} {f : FileG} : ∀ k, ((fun b => if b = a then some f else g b) k).map (·.2) = putF fm a f.2 k := by
  intro k; unfold putF; by_cases e : k = a <;> simp [e, h]
def wrE (n : Int) : Int := if n < 1 ∨ 1073741824 < n then 1 else 0
def wrS (s : DkS) (n : Int) (t : ByteArray) : DkS := if wrE n = 0 then ⟨putF s.fm n ((getF s.fm n).1 ++ t.data.toList, (getF s.fm n).2), s.ps ++ [(n, (t.size : Int))], s.ser, s.boots⟩ else s
theorem wrS_ok {s : DkS} {n : Int} {t : ByteArray} (h : ¬ (n < 1 ∨ 1073741824 < n)) : wrE n = 0 ∧ wrS s n t = ⟨putF s.fm n ((getF s.fm n).1 ++ t.data.toList, (getF s.fm n).2), s.ps ++ [(n, (t.size : Int))], s.ser, s.boots⟩ := by
  have e : wrE n = 0 := by unfold wrE; rw [if_neg h]
  exact ⟨e, by unfold wrS; rw [if_pos e]⟩
theorem wrS_no {s : DkS} {n : Int} {t : ByteArray} (h : n < 1 ∨ 1073741824 < n) : wrE n = 1 ∧ wrS s n t = s := by
  have e : wrE n = 1 := by unfold wrE; rw [if_pos h]
  exact ⟨e, by unfold wrS; rw [if_neg (by omega)]⟩

set_option maxRecDepth 100000 in
theorem dzero_any (d : Nat) (M : Nat) (pv : Value) (ser : Int) (boots : Int) (w : World) (hD : Blk w d 66 #[.bool true, .map (some M), pv, .int .i64 ser, .int .i64 boots]) :
    Calls Tryd.prog 34 #[pt d 0] w fun e w' => e = .returned (.bool false) ∧ w = w' := by
 have hB0 := Below.refl w.heap.size w
 have hl_hD := hD.lt
 refine co_enter (n := 12) Tryd.func34 rfl rfl rfl [(0, pt d 0)] rfl (fun a h0 => ?_)
 refine co_seq ?_
 refine co_reg ?_
 refine pk0 (v := .bool false) h0 rfl fun a1 h1 => ?_; clear h0
 refine pl_nil ?_
 refine co_then ?_
 refine co_seq ?_
 refine co_reg ?_
 refine pk0 (v := pt d 0) h1 rfl fun a2 h2 => ?_; clear h1
 refine pk0 (v := .bool false) h2 rfl fun a3 h3 => ?_; clear h2
 refine pk0 (v := .bool false) h3 rfl fun a4 h4 => ?_; clear h3
 refine pk0 (v := pt d 0) h4 rfl fun a5 h5 => ?_; clear h4
 refine pk0 (v := pt d 0) h5 rfl fun a6 h6 => ?_; clear h5
 refine pk0 (v := pt d 0) h6 rfl fun a7 h7 => ?_; clear h6
 refine pk (v := .bool true) h7 rfl (rn_load1 rfl rfl Tryd.isAgg4 (hD.cell rfl)) fun a8 h8 => ?_; clear h7
 refine pk0 (v := .bool false) h8 rfl fun a9 h9 => ?_; clear h8
 refine pk0 (v := .bool false) h9 rfl fun a10 h10 => ?_; clear h9
 refine pk0 (v := .bool false) h10 rfl fun a11 h11 => ?_; clear h10
 refine pl_nil ?_
 refine co_then ?_
 refine wp_ret ?_
 refine co_ret1 h11 rfl rfl ?_
 exact ⟨rfl, rfl⟩
set_option maxRecDepth 100000 in
theorem dWrite_any (w0 : World) (S : Nat → Prop) (d : Nat) (M : Nat) (pv : Value) (g : Int → Option FileG) (c : Nat) (s : DkS) (number : Int) (t : ByteArray) (w : World) (hbw : But S w0 w) (hO : DkP S w0.heap.size w d M pv g c s) (hsz : (getF s.fm number).1.length + t.size ≤ 1000000000) (hpl : s.ps.length ≤ 100000) :
    Calls Tryd.prog 28 #[pt d 0, .int .i64 number, .string t] w fun e w' => ∃ (pv' : Value) (g' : Int → Option FileG) (c' : Nat), e = .returned (.int .i64 (wrE number)) ∧ DkP S w0.heap.size w' d M pv' g' c' (wrS s number t) ∧ c' ≤ c + 1 ∧ But (S) w0 w' := by
 have hB0 := hbw
 have hz0 := hbw.size
 have hz0 := hbw.size
 have hl1 := hO.blk.lt
 have hl2 := hO.map.lt
 have hne3 := blk_ne_map hO.blk hO.map
 have hl4 := sl_len (row_sl hO.row pieceE_len)
 refine co_enter (n := 46) Tryd.func28 rfl rfl rfl [(0, pt d 0), (1, .int .i64 number), (2, .string t)] rfl (fun a h0 => ?_)
 refine co_seq ?_
 refine co_reg ?_
 refine pk0 (v := .int .i64 0) h0 rfl fun a5 h5 => ?_; clear h0
 refine pl_nil ?_
 refine co_then ?_
 refine co_seq ?_
 refine co_seq ?_
 refine co_reg ?_
 refine pk0 (v := pt d 0) h5 rfl fun a6 h6 => ?_; clear h5
 refine pw h6 rfl (op_call (args := #[pt d 0]) (R := fun res xw => res = .bool false ∧ w = xw) rfl rfl rfl (by kernel_rfl) (by kernel_rfl) (Tryd.call34 _ _) (dzero_any d M pv s.ser s.boots w hO.blk) (by rintro e x ⟨rfl, rfl⟩; exact ⟨_, rfl, ⟨rfl, rfl⟩⟩)) ?_; clear h6
 rintro _ _ a7 ⟨rfl, rfl⟩ h7
 refine pl_nil ?_
 refine co_then ?_
 refine co_false h7 rfl ?_
 refine wp_skip ?_
 refine co_then ?_
 refine co_seq ?_
 refine co_seq ?_
 refine co_reg ?_
 refine pk0 (v := .int .i64 number) h7 rfl fun a10 h10 => ?_; clear h7
 refine pk0 (v := .bool (decide (number < 1))) h10 rfl fun a11 h11 => ?_; clear h10
 refine pk0 (v := .bool (decide (number < 1))) h11 rfl fun a12 h12 => ?_; clear h11
 cases hc13 : (decide (number < 1))
 ·
  rw [hc13] at h12
  have hp14 : ¬ (number < 1) := of_decide_eq_false hc13
  clear hc13
  refine pk0 (v := .int .i64 number) h12 rfl fun a15 h15 => ?_; clear h12
  refine pk0 (v := .bool (decide (number > 1073741824))) h15 rfl fun a16 h16 => ?_; clear h15
  refine pk0 (v := .bool (decide (number > 1073741824))) h16 rfl fun a17 h17 => ?_; clear h16
  refine pl_nil ?_
  refine co_then ?_
  cases hc18 : (decide (number > 1073741824))
  ·
   rw [hc18] at h17
   have hp19 : ¬ (number > 1073741824) := of_decide_eq_false hc18
   clear hc18
   refine co_false h17 rfl ?_
   refine wp_skip ?_
   refine co_then ?_
   refine co_seq ?_
   refine co_reg ?_
   refine pk0 (v := pt d 0) h17 rfl fun a20 h20 => ?_; clear h17
   refine pk0 (v := pt d 0) h20 rfl fun a21 h21 => ?_; clear h20
   refine pk0 (v := pt d 1) h21 rfl fun a22 h22 => ?_; clear h21
   refine pk (v := .map (some M)) h22 rfl (rn_load1 rfl rfl Tryd.isAgg63 (hO.blk.cell rfl)) fun a23 h23 => ?_; clear h22
   refine pk0 (v := .int .i64 number) h23 rfl fun a24 h24 => ?_; clear h23
   obtain ⟨f25, hf26⟩ : ∃ z, (g number).getD fz = z := ⟨_, rfl⟩
   have hA27 := hO.fam.at hf26
   have hl28 := sl_len (row_sl hA27.1 u8E_len)
   have hgf29 := getF_eq hO.rel hf26
   have hgl30 : f25.2.1.length = (getF s.fm number).1.length := by rw [hgf29]
   have hgs31 : f25.2.2.1 = (getF s.fm number).2.1 := by rw [hgf29]
   refine pk (v := .agg #[f25.1, .int .i64 f25.2.2.1, .bool f25.2.2.2]) h24 rfl (rn_lookO (a := number) (f := f25) (intKL Tryd.underlying3) rfl rfl rfl Tryd.underlying63 filez hO.map hf26) fun a32 h32 => ?_; clear h24
   refine pw h32 rfl (op_new (v := fun N => pt N 0) (T := 77) (cs := #[.slice none 0 0, .int .i64 0, .bool false]) (by kernel_rfl) (by kernel_rfl) (by kernel_rfl)) ?_; clear h32
   rintro _ w34 a33 ⟨N35, rfl, hN38, hz39, hk37, hg36⟩ h33
   have ha40 := row_fresh hO.row hN38
   have hu41 := row_under hO.row hN38
   have ha42 := row_fresh hA27.1 hN38
   have hu43 := row_under hA27.1 hN38
   have hz44 := hg36.size
   try dsimp only at h33
   have hr50 := row_kept_new hA27.1 hg36
   refine pwD h33 rfl (op_storeN rfl rfl rfl (all_cons (row_one hr50) (all_cons rfl (all_cons rfl all_nil))) (by kernel_rfl) hk37 rfl) ?_; clear h33
   rintro _ w46 a45 ⟨hk47, hz48, hg49⟩ h45
   have hk47' : Blk w46 N35 77 #[f25.1, .int .i64 f25.2.2.1, .bool f25.2.2.2] := hk47; clear hk47
   have hz51 := hg49.size
   refine pl_nil ?_
   refine co_then ?_
   refine co_seq ?_
   refine co_reg ?_
   refine pk0 (v := pt N35 0) h45 rfl fun a52 h52 => ?_; clear h45
   refine pk (v := f25.1) h52 rfl (rn_load1 rfl rfl Tryd.isAgg75 (hk47'.cell rfl)) fun a53 h53 => ?_; clear h52
   refine pk0 (v := .string t) h53 rfl fun a54 h54 => ?_; clear h53
   have hr61 := row_kept_at hr50 hg49 (ha42)
   refine pw h54 rfl (op_appendStrF rfl 0 5 Tryd.underlying75 Tryd.underlying9 (by kernel_rfl) rfl hr61 rfl (by omega) (by omega)) ?_; clear h54
   rintro v57 w56 a55 ⟨hr58, hwt60, hg59⟩ h55
   have hF62 := hO.fam.new hg36
   have hF63 := hF62.blk hk37 (by decide) hg49
   have hz64 := hg59.size
   have hF65 := Fam.app (sf := f25.2.2.1) (b0 := f25.2.2.2) hF63 hf26 hwt60 hr58 hg59 (by omega)
   refine pk0 (v := pt N35 0) h55 rfl fun a66 h66 => ?_; clear h55
   have hk72 := hk47'.kept hg59 (ha42)
   refine pwD h66 rfl (op_store1 rfl rfl rfl (row_one hr58) Tryd.sizeOf75 hk72 rfl) ?_; clear h66
   rintro _ w68 a67 ⟨hk69, hz70, hg71⟩ h67
   have hk69' : Blk w68 N35 77 #[v57, .int .i64 f25.2.2.1, .bool f25.2.2.2] := hk69; clear hk69
   have hz73 := hg71.size
   refine pl_nil ?_
   refine co_then ?_
   refine co_seq ?_
   refine dr_gen (fun x => But (S) w0 x ∧ Blk x d 66 #[.bool true, .map (some M), pv, .int .i64 s.ser, .int .i64 s.boots] ∧ Blk x N35 77 #[v57, .int .i64 f25.2.2.1, .bool f25.2.2.2]) (by kernel_rfl) (fun w74 hg75 => ?_) (fun w74 hg75 => ?_)
   ·
    have hz76 := hg75.size
    have hB77 := fbU_new hB0 hg36
    have hB78 := fbU_at hB77 hg49 (fun hlt => absurd hlt (by omega))
    have hB79 := fbU_row hB78 hA27.2 hg59
    have hB80 := fbU_at hB79 hg71 (fun hlt => absurd hlt (by omega))
    have hB81 := fbU_new hB80 hg75
    have hk82 := hO.blk.kept hg36 (by simp)
    have hk83 := hk82.kept hg49 (by simp; omega)
    have hk84 := hk83.kept hg59 (own_neT hr61 hk83 (by decide))
    have hk85 := hk84.kept hg71 (by simp; omega)
    have hk86 := hk85.kept hg75 (by simp)
    have hk87 := hk69'.kept hg75 (by simp)
    exact ⟨hB81, hk86, hk87⟩
   have hz88 := hg75.size
   have hB89 := fbU_new hB0 hg36
   have hB90 := fbU_at hB89 hg49 (fun hlt => absurd hlt (by omega))
   have hB91 := fbU_row hB90 hA27.2 hg59
   have hB92 := fbU_at hB91 hg71 (fun hlt => absurd hlt (by omega))
   have hB93 := fbU_new hB92 hg75
   have hk94 := hO.blk.kept hg36 (by simp)
   have hk95 := hk94.kept hg49 (by simp; omega)
   have hk96 := hk95.kept hg59 (own_neT hr61 hk95 (by decide))
   have hk97 := hk96.kept hg71 (by simp; omega)
   have hk98 := hk97.kept hg75 (by simp)
   have hk99 := hk69'.kept hg75 (by simp)
   refine dk0 0 (v := pt d 0) h67 rfl rfl ⟨hB93, hk98, hk99⟩ fun a100 h100 => ?_; clear h67
   refine dk0 1 (v := pt d 0) h100 rfl rfl ⟨hB93, hk98, hk99⟩ fun a101 h101 => ?_; clear h100
   refine dk0 2 (v := pt d 1) h101 rfl rfl ⟨hB93, hk98, hk99⟩ fun a102 h102 => ?_; clear h101
   refine dk 3 (v := .map (some M)) h102 rfl rfl ⟨hB93, hk98, hk99⟩ (fun x hx => (rn_load1 rfl rfl Tryd.isAgg63 (hx.2.1.cell rfl))) fun a103 h103 => ?_; clear h102
   refine dk0 4 (v := .int .i64 number) h103 rfl rfl ⟨hB93, hk98, hk99⟩ fun a104 h104 => ?_; clear h103
   refine dk 5 (v := .agg #[v57, .int .i64 f25.2.2.1, .bool f25.2.2.2]) h104 rfl rfl ⟨hB93, hk98, hk99⟩ (fun x hx => (rn_loadN rfl rfl Tryd.underlying77 rfl (by kernel_rfl) hx.2.2.all)) fun a105 h105 => ?_; clear h104
   have hM111 := hO.map.kept hg36 (by simp)
   have hM112 := hM111.kept hg49 (by simp; omega)
   have hM113 := hM112.kept hg59 (hM112.row hr61)
   have hM114 := hM113.kept hg71 (by simp; omega)
   have hM115 := hM114.kept hg75 (by simp)
   refine d1D 6 h105 rfl rfl (op_updateO (a := number) (v := (v57, f25.2.1 ++ t.data.toList, f25.2.2.1, f25.2.2.2)) (intKL Tryd.underlying3) rfl rfl rfl rfl Tryd.underlying63 hM115) ?_ ?_; clear h105
   ·
    rintro _ w107 ⟨hm108, hz109, hg110⟩
    have hz117 := hg110.size
    have hl118 := hm108.lt
    have hB119 := fbU_at hB93 hg110 (fun hlt => by rcases hO.sM with hq | hq; exact hq; omega)
    have hk120 := hk98.kept hg110 (by simp; omega)
    have hk121 := hk99.kept hg110 (by simp; omega)
    exact ⟨hB119, hk120, hk121⟩
   rintro _ w107 a106 ⟨hm108, hz109, hg110⟩ h106
   have hz117 := hg110.size
   have hl118 := hm108.lt
   refine dr_done (by kernel_rfl) ?_
   refine co_then ?_
   refine co_seq ?_
   refine co_reg ?_
   refine pk0 (v := pt d 0) h106 rfl fun a119 h119 => ?_; clear h106
   refine pk0 (v := pt d 0) h119 rfl fun a120 h120 => ?_; clear h119
   refine pk0 (v := pt d 0) h120 rfl fun a121 h121 => ?_; clear h120
   refine pk0 (v := pt d 2) h121 rfl fun a122 h122 => ?_; clear h121
   have hk123 := hk98.kept hg110 (by simp; omega)
   refine pk (v := pv) h122 rfl (rn_load1 rfl rfl Tryd.isAgg64 (hk123.cell rfl)) fun a124 h124 => ?_; clear h122
   refine pk0 (v := .int .i64 number) h124 rfl fun a125 h125 => ?_; clear h124
   refine pk0 (v := .string t) h125 rfl fun a126 h126 => ?_; clear h125
   refine pk (v := .int .i64 ((t.size : Nat) : Int)) h126 rfl (rn_lenStr rfl rfl Tryd.underlying9) fun a127 h127 => ?_; clear h126
   refine pk0 (v := .agg #[.int .i64 number, .int .i64 ((t.size : Nat) : Int)]) h127 rfl fun a128 h128 => ?_; clear h127
   refine pw h128 rfl (op_new (v := fun N => .slice (some ⟨N, 0, none⟩) 1 1) (T := 74) (cs := #[.int .i64 number, .int .i64 ((t.size : Nat) : Int)]) (by kernel_rfl) (by kernel_rfl) (by kernel_rfl)) ?_; clear h128
   rintro _ w130 a129 ⟨N131, rfl, hN134, hz135, hk133, hg132⟩ h129
   have hr137 := row_kept_new hO.row hg36
   have hr138 := row_kept_at hr137 hg49 (ha40)
   have hr139 := row_kept_row hr138 hr61 hg59 (by decide)
   have hr140 := row_kept_at hr139 hg71 (ha40)
   have hr141 := row_kept_new hr140 hg75
   have hr142 := row_kept_at hr141 hg110 (hM115.row hr141)
   have ha136 := row_fresh hr142 hN134
   have hu143 := row_under hr142 hN134
   have hr145 := row_kept_at hr58 hg71 (own_neT hr58 hk72 (by decide))
   have hr146 := row_kept_new hr145 hg75
   have hr147 := row_kept_at hr146 hg110 (hM115.row hr146)
   have ha144 := row_fresh hr147 hN134
   have hu148 := row_under hr147 hN134
   have hz149 := hg132.size
   try dsimp only at h129
   have hr156 := row_kept_new hr142 hg132
   refine pw h129 rfl (op_appendF rfl 0 74 (z := .agg #[.int .i64 0, .int .i64 0]) (size := 2) (bytes := 16) Tryd.underlying64 (by kernel_rfl) rfl rfl rfl hr156 rfl hk133 rfl (by kernel_rfl) (by first | omega | (simp only [List.length_nil, List.length_append, List.length_cons, List.length_take, List.length_drop]; omega)) (by first | omega | (simp only [List.length_nil, List.length_append, List.length_cons, List.length_take, List.length_drop]; omega)) (by omega)) ?_; clear h129
   rintro v152 w151 a150 ⟨hr153, hwt155, hg154⟩ h150
   have hr153' : w151.ownsRow 0 74 2 v152 ((s.ps ++ [(number, ((t.size : Nat) : Int))]).length) ((s.ps ++ [(number, ((t.size : Nat) : Int))]).flatMap pieceE) := row_push (y := (number, ((t.size : Nat) : Int))) hr153 rfl rfl; clear hr153
   have hz157 := hg154.size
   refine pk0 (v := pt d 0) h150 rfl fun a158 h158 => ?_; clear h150
   refine pk0 (v := pt d 2) h158 rfl fun a159 h159 => ?_; clear h158
   have hk165 := hk123.kept hg132 (by simp)
   have hk166 := hk165.kept hg154 (own_neT hr156 hk165 (by decide))
   refine pwD h159 rfl (op_store1 rfl rfl rfl (row_one hr153') Tryd.sizeOf64 hk166 rfl) ?_; clear h159
   rintro _ w161 a160 ⟨hk162, hz163, hg164⟩ h160
   have hk162' : Blk w161 d 66 #[.bool true, .map (some M), v152, .int .i64 s.ser, .int .i64 s.boots] := hk162; clear hk162
   have hz167 := hg164.size
   refine pl_nil ?_
   refine co_then ?_
   refine co_seq ?_
   refine co_reg ?_
   refine pk0 (v := .int .i64 0) h160 rfl fun a168 h168 => ?_; clear h160
   refine pl_nil ?_
   refine co_then ?_
   refine wp_ret ?_
   refine co_ret1 h168 rfl rfl ?_
   have hM169 := hm108.kept hg132 (by simp)
   have hM170 := hM169.kept hg154 (hM169.row hr156)
   have hM171 := hM170.kept hg164 (by simp; omega)
   have hr172 := row_kept_at hr153' hg164 (own_neT hr153' hk166 (by decide))
   have hF173 := hF65.blk hk72 (by decide) hg71
   have hF174 := hF173.new hg75
   have hF175 := hF174.map hM115 hg110
   have hF176 := hF175.new hg132
   have hF177 := hF176.row hr156 (by decide) hg154
   have hF178 := hF177.blk hk166 (by decide) hg164
   have hB179 := fbU_at hB93 hg110 (fun hlt => by rcases hO.sM with hq | hq; exact hq; omega)
   have hB180 := fbU_new hB179 hg132
   have hB181 := fbU_row hB180 hO.sp hg154
   have hB182 := fbU_at hB181 hg164 (fun hlt => by rcases hO.sd with hq | hq; exact hq; omega)
   have hW := wrS_ok (s := s) (t := t) (show ¬ (number < 1 ∨ 1073741824 < number) by omega)
   have hgf := getF_eq hO.rel hf26
   exact ⟨v152, _, _, by rw [hW.1], by rw [hW.2]; exact ⟨hk162', hM171, hr172, hF178, hO.sd, hO.sM, (hO.sp.went hwt155 (by omega)), by rw [← hgf]; exact putF_eq hO.rel⟩, by omega, hB182⟩
  ·
   rw [hc18] at h17
   have hp183 : number > 1073741824 := of_decide_eq_true hc18
   clear hc18
   refine co_true h17 rfl ?_
   refine co_seq ?_
   refine co_reg ?_
   refine pk0 (v := .int .i64 1) h17 rfl fun a184 h184 => ?_; clear h17
   refine pl_nil ?_
   refine co_then ?_
   refine wp_ret ?_
   refine co_thenR ?_
   refine co_ret1 h184 rfl rfl ?_
   have hW := wrS_no (s := s) (t := t) (show number < 1 ∨ 1073741824 < number by omega)
   exact ⟨pv, g, c, by rw [hW.1], by rw [hW.2]; exact ⟨hO.blk, hO.map, hO.row, hO.fam, hO.sd, hO.sM, hO.sp, hO.rel⟩, by omega, hB0⟩
 ·
  rw [hc13] at h12
  have hp185 : number < 1 := of_decide_eq_true hc13
  clear hc13
  refine psk h12 rfl fun a186 h186 => ?_; clear h12
  refine psk h186 rfl fun a187 h187 => ?_; clear h186
  refine pk0 (v := .bool true) h187 rfl fun a188 h188 => ?_; clear h187
  refine pl_nil ?_
  refine co_then ?_
  refine co_true h188 rfl ?_
  refine co_seq ?_
  refine co_reg ?_
  refine pk0 (v := .int .i64 1) h188 rfl fun a189 h189 => ?_; clear h188
  refine pl_nil ?_
  refine co_then ?_
  refine wp_ret ?_
  refine co_thenR ?_
  refine co_ret1 h189 rfl rfl ?_
  have hW := wrS_no (s := s) (t := t) (show number < 1 ∨ 1073741824 < number by omega)
  exact ⟨pv, g, c, by rw [hW.1], by rw [hW.2]; exact ⟨hO.blk, hO.map, hO.row, hO.fam, hO.sd, hO.sM, hO.sp, hO.rel⟩, by omega, hB0⟩
end Go.Proofs.YtfiplhnplmadmaaDoor

/- Package disk: forget, Pending, Sync, Data, Serial, Boots. Conditions: sums of less than 10^12. -/
namespace Go.Proofs.YtfiplhnplmadmaaDoor
open Go.RowKit Go.PlainAid
set_option linter.unusedVariables false


def sumP (l : List PcT) : Int := l.foldl (fun n p => n + p.2) 0
def datF (fm : Int → Option FileM) (k : Int) : ByteArray := ⟨(getF fm k).1.toArray⟩
/-- ys are the files' numbers, rising. -/
def KeysF (fm : Int → Option FileM) (ys : List Int) : Prop := ys.Pairwise (· < ·) ∧ ∀ k, k ∈ ys ↔ (fm k).isSome = true
theorem fun_eq {g g2 : Int → Option FileG} {w : World} {M c c2 : Nat} (h : MapO intK fileV w M g c) (e : g = g2) (hc : c ≤ c2) : MapO intK fileV w M g2 c2 := h.eq e hc
theorem perm_snoc {α : Type} {A L1 L2 : List α} {p : α} {lt : List α} {ls : List α} (h : (A ++ ls).Perm lt) (e : ls = L1 ++ p :: L2) : ((A ++ [p]) ++ (L1 ++ L2)).Perm lt := by
  subst e
  refine List.Perm.trans ?_ h
  rw [List.append_assoc]
  exact List.Perm.append_left A (by rw [List.singleton_append]; exact List.perm_middle.symm)
theorem keys_of {g : Int → Option FileG} {fm : Int → Option FileM} (hr : ∀ k, (g k).map (·.2) = fm k) {lt : List (Int × FileG)} (hf : Full g lt) {ks : List Int} (hp : (ks ++ ([] : List (Int × FileG)).map (·.1)).Perm (lt.map (·.1))) : KeysF fm (srt ks) := by
  have hp' : ks.Perm (lt.map (·.1)) := by simpa using hp
  constructor
  · have hn : (srt ks).Nodup := (srt_perm ks).symm.nodup (hp'.symm.nodup hf.1)
    exact List.Pairwise.imp₂ (fun {a b} h1 h2 => by have h3 : a ≤ b := h1; have h4 : a ≠ b := h2; omega) (srt_up ks) hn
  · intro k
    rw [srt_mem, hp'.mem_iff, List.mem_map]
    rw [← hr k]
    constructor
    · rintro ⟨q, hq, rfl⟩
      have := (hf.2 q.1 q.2).2 hq
      rw [this]; rfl
    · intro h
      cases hg : g k with
      | none => rw [hg] at h; cases h
      | some f => exact ⟨(k, f), (hf.2 k f).1 hg, rfl⟩

set_option maxRecDepth 100000 in
theorem dData_any (w0 : World) (S : Nat → Prop) (d : Nat) (M : Nat) (pv : Value) (g : Int → Option FileG) (c : Nat) (s : DkS) (number : Int) (w : World) (hbw : But S w0 w) (hO : DkP S w0.heap.size w d M pv g c s) :
    Calls Tryd.prog 27 #[pt d 0, .int .i64 number] w fun e w' => e = .returned (.string (datF s.fm number)) ∧ DkP S w0.heap.size w' d M pv g c s ∧ But (S) w0 w' := by
 have hB0 := hbw
 have hz0 := hbw.size
 have hz0 := hbw.size
 have hl1 := hO.blk.lt
 have hl2 := hO.map.lt
 have hne3 := blk_ne_map hO.blk hO.map
 have hl4 := sl_len (row_sl hO.row pieceE_len)
 refine co_enter (n := 15) Tryd.func27 rfl rfl rfl [(0, pt d 0), (1, .int .i64 number)] rfl (fun a h0 => ?_)
 refine co_seq ?_
 refine co_reg ?_
 refine pk0 (v := .string (⟨#[]⟩)) h0 rfl fun a5 h5 => ?_; clear h0
 refine pl_nil ?_
 refine co_then ?_
 refine co_seq ?_
 refine co_seq ?_
 refine co_reg ?_
 refine pk0 (v := pt d 0) h5 rfl fun a6 h6 => ?_; clear h5
 refine pw h6 rfl (op_call (args := #[pt d 0]) (R := fun res xw => res = .bool false ∧ w = xw) rfl rfl rfl (by kernel_rfl) (by kernel_rfl) (Tryd.call34 _ _) (dzero_any d M pv s.ser s.boots w hO.blk) (by rintro e x ⟨rfl, rfl⟩; exact ⟨_, rfl, ⟨rfl, rfl⟩⟩)) ?_; clear h6
 rintro _ _ a7 ⟨rfl, rfl⟩ h7
 refine pl_nil ?_
 refine co_then ?_
 refine co_false h7 rfl ?_
 refine wp_skip ?_
 refine co_then ?_
 refine co_seq ?_
 refine co_reg ?_
 refine pk0 (v := pt d 0) h7 rfl fun a10 h10 => ?_; clear h7
 refine pk0 (v := pt d 0) h10 rfl fun a11 h11 => ?_; clear h10
 refine pk0 (v := pt d 1) h11 rfl fun a12 h12 => ?_; clear h11
 refine pk (v := .map (some M)) h12 rfl (rn_load1 rfl rfl Tryd.isAgg63 (hO.blk.cell rfl)) fun a13 h13 => ?_; clear h12
 refine pk0 (v := .int .i64 number) h13 rfl fun a14 h14 => ?_; clear h13
 obtain ⟨f15, hf16⟩ : ∃ z, (g number).getD fz = z := ⟨_, rfl⟩
 have hA17 := hO.fam.at hf16
 have hl18 := sl_len (row_sl hA17.1 u8E_len)
 have hgf19 := getF_eq hO.rel hf16
 have hgl20 : f15.2.1.length = (getF s.fm number).1.length := by rw [hgf19]
 have hgs21 : f15.2.2.1 = (getF s.fm number).2.1 := by rw [hgf19]
 refine pk (v := .agg #[f15.1, .int .i64 f15.2.2.1, .bool f15.2.2.2]) h14 rfl (rn_lookO (a := number) (f := f15) (intKL Tryd.underlying3) rfl rfl rfl Tryd.underlying63 filez hO.map hf16) fun a22 h22 => ?_; clear h14
 refine pk0 (v := f15.1) h22 rfl fun a23 h23 => ?_; clear h22
 refine pk (v := .string (⟨f15.2.1.toArray⟩)) h23 rfl (rn_convOwn rfl rfl Tryd.underlying75 Tryd.underlying5 Tryd.underlying9 hA17.1) fun a24 h24 => ?_; clear h23
 refine pk0 (v := .string (⟨f15.2.1.toArray⟩)) h24 rfl fun a25 h25 => ?_; clear h24
 refine pl_nil ?_
 refine co_then ?_
 refine wp_ret ?_
 refine co_ret1 h25 rfl rfl ?_
 exact ⟨by unfold datF; rw [← hgf19], ⟨hO.blk, hO.map, hO.row, hO.fam, hO.sd, hO.sM, hO.sp, hO.rel⟩, hB0⟩
end Go.Proofs.YtfiplhnplmadmaaDoor

/- Package disk: Files, Crash. Conditions: at most 10^6 entries. -/
namespace Go.Proofs.YtfiplhnplmadmaaDoor
open Go.RowKit Go.PlainAid
set_option linter.unusedVariables false


theorem row_nnD {w : World} {B : Nat} {T : TypeId} {sz : Nat} {v : Value} {k : Nat} {xs : List Value} (h : w.ownsRow B T sz v k xs) (hk : 0 < k) : v ≠ .slice none 0 0 := by
  rintro rfl
  rcases h.2 with ⟨_, h1⟩ | ⟨g, cap, cur, h1, _⟩
  · have h0 := h.1; omega
  · simp at h1
section
variable {X : Int × Bool × (Int → Option FileM)} {y : PcT} {kp : Int}
end
set_option maxRecDepth 100000 in
theorem dFiles_any (w0 : World) (S : Nat → Prop) (d : Nat) (M : Nat) (pv : Value) (g : Int → Option FileG) (c : Nat) (s : DkS) (w : World) (hbw : But S w0 w) (hO : DkP S w0.heap.size w d M pv g c s) (hc : c ≤ 1000000) :
    Calls Tryd.prog 26 #[pt d 0] w fun e w' => ∃ (ys : List Int) (u : Value), e = .returned (u) ∧ w'.ownsRow w.heap.size 3 1 u ys.length (ys.flatMap (intE .i64)) ∧ KeysF s.fm ys ∧ ys.length ≤ c ∧ DkP S w0.heap.size w' d M pv g c s ∧ But (S) w0 w' := by
 have hB0 := hbw
 have hz0 := hbw.size
 have hz0 := hbw.size
 have hl1 := hO.blk.lt
 have hl2 := hO.map.lt
 have hne3 := blk_ne_map hO.blk hO.map
 have hl4 := sl_len (row_sl hO.row pieceE_len)
 refine co_enter (n := 29) Tryd.func26 rfl rfl rfl [(0, pt d 0)] rfl (fun a h0 => ?_)
 refine co_seq ?_
 refine co_reg ?_
 refine pk0 (v := .slice none 0 0) h0 rfl fun a5 h5 => ?_; clear h0
 refine pl_nil ?_
 refine co_then ?_
 refine co_seq ?_
 refine co_seq ?_
 refine co_reg ?_
 refine pk0 (v := pt d 0) h5 rfl fun a6 h6 => ?_; clear h5
 refine pw h6 rfl (op_call (args := #[pt d 0]) (R := fun res xw => res = .bool false ∧ w = xw) rfl rfl rfl (by kernel_rfl) (by kernel_rfl) (Tryd.call34 _ _) (dzero_any d M pv s.ser s.boots w hO.blk) (by rintro e x ⟨rfl, rfl⟩; exact ⟨_, rfl, ⟨rfl, rfl⟩⟩)) ?_; clear h6
 rintro _ _ a7 ⟨rfl, rfl⟩ h7
 refine pl_nil ?_
 refine co_then ?_
 refine co_false h7 rfl ?_
 refine wp_skip ?_
 refine co_then ?_
 refine co_seq ?_
 refine co_reg ?_
 refine pk0 (v := pt d 0) h7 rfl fun a10 h10 => ?_; clear h7
 refine pk0 (v := pt d 0) h10 rfl fun a11 h11 => ?_; clear h10
 refine pk0 (v := pt d 1) h11 rfl fun a12 h12 => ?_; clear h11
 refine pk (v := .map (some M)) h12 rfl (rn_load1 rfl rfl Tryd.isAgg63 (hO.blk.cell rfl)) fun a13 h13 => ?_; clear h12
 refine pw h13 rfl (op_lenO (ts := #[]) rfl rfl Tryd.underlying63 hO.map (by kernel_rfl) rfl) ?_; clear h13
 rintro _ _ a14 ⟨k16, rfl, hk17, rfl⟩ h14
 refine pw h14 rfl (op_makeOwn (base := w.heap.size) (enc := (intE .i64)) (k := k16) (by_ := 8) (z := .int .i64 0) (size := 1) rfl rfl rfl Tryd.underlying53 (by kernel_rfl) (by omega) (by unfold maxLen; omega) (Nat.le_refl _)) ?_; clear h14
 rintro _ w19 a18 ⟨N20, rfl, hN21, hr22, hg23⟩ h18
 have hz24 := hg23.size
 refine pk0 (v := .slice (some ⟨N20, 0, none⟩) 0 k16) h18 rfl fun a25 h25 => ?_; clear h18
 refine pl_nil ?_
 refine co_then ?_
 refine co_seq ?_
 refine co_seq ?_
 refine co_reg ?_
 refine pk0 (v := pt d 0) h25 rfl fun a26 h26 => ?_; clear h25
 refine pk0 (v := pt d 0) h26 rfl fun a27 h27 => ?_; clear h26
 refine pk0 (v := pt d 1) h27 rfl fun a28 h28 => ?_; clear h27
 have hk29 := hO.blk.kept hg23 (by simp)
 refine pk (v := .map (some M)) h28 rfl (rn_load1 rfl rfl Tryd.isAgg63 (hk29.cell rfl)) fun a30 h30 => ?_; clear h28
 have hM41 := hO.map.kept hg23 (by simp)
 refine pw h30 rfl (op_rangeO (0 : Int) rfl rfl Tryd.underlying63 hM41) ?_; clear h30
 rintro _ w32 a31 ⟨r33, rfl, hN34, hz35, ⟨lt36, hI37, hfu38, hlc39⟩, hg40⟩ h31
 have hr43 := row_kept_new hO.row hg23
 have ha42 := row_fresh hr43 hN34
 have ha44 := row_fresh hr22 hN34
 have hz45 := hg40.size
 have hl46 := hI37.lt
 refine pl_nil ?_
 refine co_then ?_
 refine wp_block ?_
 have h47 : Slots 29 [(0, pt d 0), (3, .slice (some ⟨N20, 0, none⟩) 0 k16), (17, pt r33 0)] _ := h31.sub ⟨rfl, rfl, rfl, trivial⟩; clear h31
 refine co_loop (fun mm a x => ∃ (u : Value) (ks : List Int) (ls : List (Int × FileG)), Slots 29 [(0, pt d 0), (3, u), (17, pt r33 0)] a ∧ mm = ls.length ∧ ((ks ++ ls.map (·.1)).Perm (lt36.map (·.1))) ∧ (u ≠ .slice none 0 0) ∧ MapO intK fileV x M g c ∧ Fam S w0.heap.size x g ∧ x.ownsRow 0 74 2 pv s.ps.length (s.ps.flatMap pieceE) ∧ IterO intK fileV x r33 M ls ∧ x.ownsRow w.heap.size 3 1 u ks.length (ks.flatMap (intE .i64)) ∧ But (S) w0 x ∧ Blk x d 66 #[.bool true, .map (some M), pv, .int .i64 s.ser, .int .i64 s.boots]) (lt36.length) ?_ ?_
 have hM48 := hM41.kept hg40 (by simp)
 have hF49 := hO.fam.new hg23
 have hF50 := hF49.new hg40
 have hr51 := row_kept_new hr43 hg40
 have hr52 := row_kept_new hr22 hg40
 have hB53 := fbU_new hB0 hg23
 have hB54 := fbU_new hB53 hg40
 have hk55 := hk29.kept hg40 (by simp)
 · exact ⟨(.slice (some ⟨N20, 0, none⟩) 0 k16), [], lt36, h47.sub ⟨rfl, rfl, rfl, trivial⟩, rfl, by first | exact hP' | (rw [List.nil_append]), by first | (simp; done) | exact hnn', (fun_eq hM48 (by first | rfl | (funext b; rfl)) (by omega)), hF50, hr51, hI37, (row_eq hr52 (rfl)), hB54, hk55⟩
 · rintro k56 a57 w58 ⟨u, ks, ls, h57, rfl, hi59, hi60, hf61, hf62, hf63, hf64, hf65, hB66, hk67⟩
   have hz68 := hB66.size
   have hl69 := hk67.lt
   have hl70 := hf61.lt
   have hl71 := hf64.lt
   have hP : (ks ++ ls.map (·.1)).Perm (lt36.map (·.1)) := by assumption
   have hPl := hP.length_eq; simp only [List.length_append, List.length_map] at hPl
   refine co_seq ?_
   refine co_reg ?_
   refine pl_want h57 rfl rfl rfl (op_nextO rfl rfl hf64) ?_; clear h57
   rintro _ w73 a72 (⟨hnil82, rfl, rfl⟩ | ⟨p74, l75, l76, hleft77, rfl, hI78, hen79, hz80, hg81⟩) h72
   ·
    refine pk0 (v := .bool false) h72 rfl fun a83 h83 => ?_; clear h72
    refine pl_nil ?_
    refine co_then ?_
    refine co_seq ?_
    refine co_false h83 rfl ?_
    refine wp_exit ?_
    refine co_thenX ?_
    refine co_thenX ?_
    refine co_blockX ?_
    refine co_then ?_
    refine co_seq ?_
    refine co_reg ?_
    refine pk0 (v := u) h83 rfl fun a84 h84 => ?_; clear h83
    refine pw h84 rfl (op_call (args := #[u]) (R := fun res xw => res = .tuple #[] ∧ xw.ownsRow w.heap.size 3 1 u (srt ks).length ((srt ks).flatMap (intE .i64)) ∧ w58.grownBy xw (Value.ownBlock u)) rfl rfl rfl (by kernel_rfl) (by kernel_rfl) (Tryd.call45 _ _) (sortI_any u ks w.heap.size 3 w58 hf65 (by assumption) (by omega)) (by rintro e x ⟨rfl, h⟩; exact ⟨_, rfl, rfl, h⟩)) ?_; clear h84
    rintro _ w86 a85 ⟨rfl, hr87, hg88⟩ h85
    have hz89 := hg88.size
    have hle90 := srt_len ks
    refine pl_nil ?_
    refine co_then ?_
    refine co_seq ?_
    refine co_reg ?_
    refine pk0 (v := u) h85 rfl fun a91 h91 => ?_; clear h85
    refine pk0 (v := u) h91 rfl fun a92 h92 => ?_; clear h91
    refine pl_nil ?_
    refine co_then ?_
    refine wp_ret ?_
    refine co_ret1 h92 rfl rfl ?_
    have hk93 := hk67.kept hg88 (own_neT hf65 hk67 (by decide))
    have hM94 := hf61.kept hg88 (hf61.row hf65)
    have hr95 := row_kept_row hf63 hf65 hg88 (by decide)
    have hF96 := hf62.row hf65 (by decide) hg88
    have hB97 := fbU_row hB66 (InS.low hf65 (by omega)) hg88
    obtain rfl : ls = [] := hnil82
    exact ⟨_, _, rfl, (row_lows hr87 (by omega)), keys_of hO.rel hfu38 hP, by rw [srt_len]; simp at hPl; omega, ⟨hk93, hM94, hr95, hF96, hO.sd, hO.sM, hO.sp, hO.rel⟩, hB97⟩
   ·
    have hz98 := hg81.size
    have hl99 := hI78.lt
    have hln100 : ls.length = l75.length + l76.length + 1 := by rw [hleft77]; simp; omega
    have hla101 : (l75 ++ l76).length = l75.length + l76.length := List.length_append
    refine pk0 (v := .bool true) h72 rfl fun a102 h102 => ?_; clear h72
    refine pl_nil ?_
    refine co_then ?_
    refine co_seq ?_
    refine co_true h102 rfl ?_
    refine wp_skip ?_
    refine co_then ?_
    refine wp_block ?_
    refine co_seq ?_
    refine co_reg ?_
    refine pk (v := .tuple #[.int .i64 p74.1, .agg #[p74.2.1, .int .i64 p74.2.2.2.1, .bool p74.2.2.2.2]]) h102 rfl (rn_entry rfl rfl hen79) fun a103 h103 => ?_; clear h102
    refine pk0 (v := .int .i64 p74.1) h103 rfl fun a104 h104 => ?_; clear h103
    refine pk0 (v := .int .i64 p74.1) h104 rfl fun a105 h105 => ?_; clear h104
    refine pl_nil ?_
    refine co_then ?_
    refine co_reg ?_
    refine pk0 (v := u) h105 rfl fun a106 h106 => ?_; clear h105
    refine pk0 (v := .int .i64 p74.1) h106 rfl fun a107 h107 => ?_; clear h106
    refine pw h107 rfl (op_new (v := fun N => .slice (some ⟨N, 0, none⟩) 1 1) (T := 3) (cs := #[.int .i64 p74.1]) (by kernel_rfl) (by kernel_rfl) (by kernel_rfl)) ?_; clear h107
    rintro _ w109 a108 ⟨N110, rfl, hN113, hz114, hk112, hg111⟩ h108
    have hr116 := row_kept_at hf63 hg81 (ha42)
    have ha115 := row_fresh hr116 hN113
    have hu117 := row_under hr116 hN113
    have hr119 := row_kept_at hf65 hg81 ((hf64.row hf65).2)
    have ha118 := row_fresh hr119 hN113
    have hu120 := row_under hr119 hN113
    have hz121 := hg111.size
    try dsimp only at h108
    have hr128 := row_kept_new hr119 hg111
    refine pw h108 rfl (op_append rfl w.heap.size 3 (z := .int .i64 0) (size := 1) (bytes := 8) Tryd.underlying53 (by kernel_rfl) rfl rfl rfl hr128 rfl hk112 rfl (by kernel_rfl) (by first | omega | (simp only [List.length_nil, List.length_append, List.length_cons, List.length_take, List.length_drop]; omega)) (by first | omega | (simp only [List.length_nil, List.length_append, List.length_cons, List.length_take, List.length_drop]; omega)) (by omega)) ?_; clear h108
    rintro v124 w123 a122 ⟨hr125, hg126⟩ h122
    have hr125' : w123.ownsRow w.heap.size 3 1 v124 ((ks ++ [p74.1]).length) ((ks ++ [p74.1]).flatMap (intE .i64)) := row_push (y := p74.1) hr125 rfl rfl; clear hr125
    have hz129 := hg126.size
    refine pk0 (v := v124) h122 rfl fun a130 h130 => ?_; clear h122
    refine pl_nil ?_
    refine co_blockN ?_
    refine co_then ?_
    refine ⟨((l75 ++ l76).length), by omega, ?_⟩
    have hP' : ((ks ++ [p74.1]) ++ (l75 ++ l76).map (·.1)).Perm (lt36.map (·.1)) := by have hq := perm_snoc hP (L1 := l75.map (·.1)) (L2 := l76.map (·.1)) (p := p74.1) (by rw [hleft77]; simp); simpa using hq
    have hnn' := row_nnD hr125' (by simp)
    have hM131 := hf61.kept hg81 (by simp; omega)
    have hM132 := hM131.kept hg111 (by simp)
    have hM133 := hM132.kept hg126 (hM132.row hr128)
    have hF134 := hf62.iter hf64 hg81
    have hF135 := hF134.new hg111
    have hF136 := hF135.row hr128 (by decide) hg126
    have hr137 := row_kept_new hr116 hg111
    have hr138 := row_kept_row hr137 hr128 hg126 (by decide)
    have hI139 := hI78.kept hg111 (by simp) (by simp)
    have hI140 := hI139.kept hg126 (hI139.row hr128).1 (hI139.row hr128).2
    have hB141 := fbU_at hB66 hg81 (fun hlt => absurd hlt (by omega))
    have hB142 := fbU_new hB141 hg111
    have hB143 := fbU_row hB142 (InS.low hr128 (by omega)) hg126
    have hk144 := hk67.kept hg81 (by simp; omega)
    have hk145 := hk144.kept hg111 (by simp)
    have hk146 := hk145.kept hg126 (own_neT hr128 hk145 (by decide))
    exact ⟨v124, (ks ++ [p74.1]), (l75 ++ l76), h130.sub ⟨rfl, rfl, rfl, trivial⟩, rfl, by first | exact hP' | (rw [List.nil_append]), by first | (simp; done) | exact hnn', (fun_eq hM133 (by first | rfl | (funext b; rfl)) (by omega)), hF136, hr138, hI140, (row_eq hr125' (rfl)), hB143, hk146⟩
end Go.Proofs.YtfiplhnplmadmaaDoor

/- Package disk: New, what is no disk; the disk as one object. Conditions: none. -/
namespace Go.Proofs.YtfiplhnplmadmaaDoor
open Go.RowKit Go.PlainAid
set_option linter.unusedVariables false

set_option maxRecDepth 100000 in
theorem dNew_any  (w : World)  :
    Calls Tryd.prog 10 #[] w fun e w' => ∃ (N : Nat) (M : Nat), e = .returned (pt N 0) ∧ DkP (fun _ => False) w.heap.size w' N M (.slice none 0 0) (fun _ => none) 0 ⟨fun _ => none, [], 1, 1⟩ ∧ Below w.heap.size w w' := by
 have hB0 := Below.refl w.heap.size w
 refine co_enter (n := 4) Tryd.func10 rfl rfl rfl [] rfl (fun a h0 => ?_)
 refine co_seq ?_
 refine co_reg ?_
 refine pk0 (v := .pointer none) h0 rfl fun a1 h1 => ?_; clear h0
 refine pl_nil ?_
 refine co_then ?_
 refine co_seq ?_
 refine co_reg ?_
 refine pw h1 rfl (op_makeO intK fileV (by kernel_rfl) (by kernel_rfl) rfl) ?_; clear h1
 rintro _ w3 a2 ⟨B4, rfl, hN5, hz6, hm7, hg8⟩ h2
 have hz9 := hg8.size
 have hl10 := hm7.lt
 refine pk0 (v := .agg #[.bool true, .map (some B4), .slice none 0 0, .int .i64 1, .int .i64 1]) h2 rfl fun a11 h11 => ?_; clear h2
 refine pw h11 rfl (op_new (v := fun N => pt N 0) (T := 66) (cs := #[.bool true, .map (some B4), .slice none 0 0, .int .i64 1, .int .i64 1]) (by kernel_rfl) (by kernel_rfl) (by kernel_rfl)) ?_; clear h11
 rintro _ w13 a12 ⟨N14, rfl, hN17, hz18, hk16, hg15⟩ h12
 have hz19 := hg15.size
 try dsimp only at h12
 refine pk0 (v := pt N14 0) h12 rfl fun a20 h20 => ?_; clear h12
 refine pl_nil ?_
 refine co_then ?_
 refine wp_ret ?_
 refine co_ret1 h20 rfl rfl ?_
 have hM21 := hm7.kept hg15 (by simp)
 have hB22 := hb_new hB0 hg8
 have hB23 := hb_new hB22 hg15
 exact ⟨_, _, rfl, ⟨hk16, hM21, World.ownsRow_nil _ _ _ _, Fam.none, .inr (by omega), .inr (by omega), InS.nil, fun _ => rfl⟩, hB23⟩
def TyS (w : World) (k : Nat) : Prop := (∃ cs T fr, w.heap[k]? = some (.cells cs T fr) ∧ (T = 66 ∨ T = 74 ∨ T = 5)) ∨ ∃ es cl, w.heap[k]? = some (.map es cl)
def SD (base : Nat) (w : World) (k : Nat) : Prop := base ≤ k ∧ TyS w k
/-- A type that is none of the disk's. -/
def offD (T : TypeId) : Prop := T ≠ 66 ∧ T ≠ 74 ∧ T ≠ 5
instance (T : TypeId) : Decidable (offD T) := by unfold offD; infer_instance
abbrev ButD (base : Nat) (w x : World) : Prop := But (SD base w) w x
/-- A disk that was made, of at most c files told, all of it from base on. -/
def DObj (base : Nat) (w : World) (d : Nat) (c : Nat) (s : DkS) : Prop := ∃ M pv g c', c' ≤ c ∧ DkP (fun _ => False) base w d M pv g c' s
section
variable {base : Nat} {w x : World} {d c M : Nat} {pv : Value} {g : Int → Option FileG} {s : DkS} {S : Nat → Prop} {n : Nat}
theorem row_block {B sz k : Nat} {e : TypeId} {v : Value} {xs : List Value} (h : w.ownsRow B e sz v k xs) {i : Nat} (hi : v.ownBlock = some i) : ∃ cs, w.heap[i]? = some (.cells cs e (0, 0)) := by
  rcases h.2 with ⟨rfl, _⟩ | ⟨g, c, cur, rfl, _, hh, _⟩
  · simp [Value.ownBlock] at hi
  · simp only [Value.ownBlock, Option.some.injEq] at hi; subst hi; exact ⟨_, hh⟩
theorem DkP.up (h : DkP (fun _ => False) base w d M pv g c s) : DkP (SD base w) w.heap.size w d M pv g c s := by
  have key : ∀ {B sz k : Nat} {e : TypeId} {v : Value} {xs : List Value}, w.ownsRow B e sz v k xs → (e = 66 ∨ e = 74 ∨ e = 5) → InS (fun _ => False) base v → InS (SD base w) w.heap.size v := by
    intro B sz k e v xs hr he hi i hb
    obtain ⟨cs, hc⟩ := row_block hr hb
    rcases hi i hb with q | q
    · exact absurd q id
    · exact .inl ⟨q, .inl ⟨cs, e, _, hc, he⟩⟩
  refine ⟨h.blk, h.map, h.row, ⟨fun k f hf => ⟨(h.fam.1 k f hf).1, key (h.fam.1 k f hf).1 (.inr (.inr rfl)) (h.fam.1 k f hf).2⟩, h.fam.2⟩, ?_, ?_, key h.row (.inr (.inl rfl)) h.sp, h.rel⟩
  · rcases h.sd with q | q
    · exact absurd q id
    · exact .inl ⟨q, .inl ⟨_, _, _, h.blk, .inl rfl⟩⟩
  · obtain ⟨l, ⟨es, cl, h1, _⟩, _⟩ := h.map
    rcases h.sM with q | q
    · exact absurd q id
    · exact .inl ⟨q, .inr ⟨es, cl, h1⟩⟩
theorem DkP.dn {w0 : World} (h : DkP (SD base w0) w0.heap.size w d M pv g c s) (hb : base ≤ w0.heap.size) : DkP (fun _ => False) base w d M pv g c s := by
  have key : ∀ {v : Value}, InS (SD base w0) w0.heap.size v → InS (fun _ => False) base v := fun hi i hb' => by
    rcases hi i hb' with q | q
    · exact .inr q.1
    · exact .inr (by omega)
  refine ⟨h.blk, h.map, h.row, ⟨fun k f hf => ⟨(h.fam.1 k f hf).1, key (h.fam.1 k f hf).2⟩, h.fam.2⟩, ?_, ?_, key h.sp, h.rel⟩
  · rcases h.sd with q | q
    · exact .inr q.1
    · exact .inr (by omega)
  · rcases h.sM with q | q
    · exact .inr q.1
    · exact .inr (by omega)
theorem DObj.lo (h : DObj base w d c s) : base ≤ w.heap.size := by
  obtain ⟨M, pv, g, c', _, h⟩ := h
  have h1 := h.blk.lt
  rcases h.sd with q | q
  · exact absurd q id
  · omega
theorem row_same {B sz k : Nat} {e : TypeId} {v : Value} {xs : List Value} (h : w.ownsRow B e sz v k xs) (hs : w.heap.size ≤ x.heap.size) (hk : ∀ i, v.ownBlock = some i → x.heap[i]? = w.heap[i]?) : x.ownsRow B e sz v k xs := by
  refine ⟨h.1, ?_⟩
  rcases h.2 with h1 | ⟨g, c, cur, rfl, hg, hh, h3⟩
  · exact .inl h1
  · exact .inr ⟨g, c, cur, rfl, hg, by rw [hk g rfl]; exact hh, h3⟩
/-- All that is the disk's is as it was: so is the disk. -/
theorem DObj.keep (h : DObj base w d c s) (hs : w.heap.size ≤ x.heap.size) (hk : ∀ k, TyS w k → x.heap[k]? = w.heap[k]?) : DObj base x d c s := by
  obtain ⟨M, pv, g, c', hc, h⟩ := h
  have key : ∀ {B sz k : Nat} {e : TypeId} {v : Value} {xs : List Value}, w.ownsRow B e sz v k xs → (e = 66 ∨ e = 74 ∨ e = 5) → x.ownsRow B e sz v k xs := by
    intro B sz k e v xs hr he
    refine row_same hr hs fun i hi => ?_
    obtain ⟨cs, hcs⟩ := row_block hr hi
    exact hk i (.inl ⟨cs, e, _, hcs, he⟩)
  refine ⟨M, pv, g, c', hc, ⟨?_, ?_, key h.row (.inr (.inl rfl)), ⟨fun k f hf => ⟨key (h.fam.1 k f hf).1 (.inr (.inr rfl)), (h.fam.1 k f hf).2⟩, h.fam.2⟩, h.sd, h.sM, h.sp, h.rel⟩⟩
  · have hb := h.blk
    unfold Blk at hb ⊢
    rw [hk d (.inl ⟨_, _, _, hb, .inl rfl⟩)]; exact hb
  · obtain ⟨l, ⟨es, cl, h1, h2⟩, h3⟩ := h.map
    exact ⟨l, ⟨es, cl, by rw [hk M (.inr ⟨es, cl, h1⟩)]; exact h1, h2⟩, h3⟩
theorem DObj.gr {row : Option Nat} (h : DObj base w d c s) (hg : w.grownBy x row) (hr : ∀ k, row = some k → ¬ TyS w k) : DObj base x d c s :=
  h.keep hg.size fun k hk => by
    have hlt : k < w.heap.size := by
      rcases hk with ⟨cs, T, fr, h1, _⟩ | ⟨es, cl, h1⟩
      · exact (Array.getElem?_eq_some_iff.1 h1).1
      · exact (Array.getElem?_eq_some_iff.1 h1).1
    exact hg.block k hlt (fun e => hr k e.symm hk)
theorem DObj.new (h : DObj base w d c s) (hg : w.grownBy x none) : DObj base x d c s := h.gr hg (fun k e => by cases e)
theorem DObj.call (h : DObj base w d c s) (hb : Below w.heap.size w x) : DObj base x d c s := h.new (below_grown hb)
theorem not_ty {N : Nat} {T : TypeId} {cs : Array Value} (hb : w.heap[N]? = some (.cells cs T (0, 0))) (hT : offD T) : ¬ TyS w N := by
  rintro (⟨cs', T', fr, h1, h2⟩ | ⟨es, cl, h1⟩)
  · rw [hb] at h1
    simp only [Option.some.injEq, Obj.cells.injEq] at h1
    obtain ⟨_, rfl, _⟩ := h1
    rcases h2 with q | q | q
    · exact hT.1 q
    · exact hT.2.1 q
    · exact hT.2.2 q
  · rw [hb] at h1; cases h1
theorem DObj.at {N : Nat} {T : TypeId} {cs : Array Value} (h : DObj base w d c s) (hb : Blk w N T cs) (hT : offD T) (hg : w.grownBy x (some N)) : DObj base x d c s := h.gr hg (fun k e => by cases e; exact not_ty hb hT)
theorem DObj.row {B sz k : Nat} {e : TypeId} {v : Value} {xs : List Value} (h : DObj base w d c s) (hr : w.ownsRow B e sz v k xs) (hT : offD e) (hg : w.grownBy x v.ownBlock) : DObj base x d c s :=
  h.gr hg (fun k e => by obtain ⟨cs, hc⟩ := row_block hr e; exact not_ty hc hT)
theorem rowD {B sz k : Nat} {e : TypeId} {v : Value} {xs : List Value} (hr : w.ownsRow B e sz v k xs) (hT : offD e) (hb : ButD base w x) : x.ownsRow B e sz v k xs :=
  row_same hr hb.size fun i hi => by
    obtain ⟨cs, hc⟩ := row_block hr hi
    exact hb.block i (Array.getElem?_eq_some_iff.1 hc).1 (fun h => not_ty hc hT h.2)
theorem blkD {N : Nat} {T : TypeId} {cs : Array Value} (h : Blk w N T cs) (hT : offD T) (hb : ButD base w x) : Blk x N T cs := by
  have hl := h.lt
  unfold Blk at h ⊢
  rw [hb.block N hl (fun h' => not_ty h hT h'.2)]; exact h
theorem hbD {w0 : World} (h : Below w0.heap.size w0 w) (hb : ButD w0.heap.size w x) : Below w0.heap.size w0 x := below_but h hb h.size (fun i _ h => h.1)
theorem DObj.low {b2 : Nat} (h : DkP (fun _ => False) b2 w d M pv g c s) (hb : base ≤ b2) : DObj base w d c s :=
  ⟨M, pv, g, c, Nat.le_refl _, ⟨h.blk, h.map, h.row, ⟨fun k f hf => ⟨(h.fam.1 k f hf).1, fun i hi => by rcases (h.fam.1 k f hf).2 i hi with q | q; exact absurd q id; exact .inr (by omega)⟩, h.fam.2⟩, by rcases h.sd with q | q; exact absurd q id; exact .inr (by omega), by rcases h.sM with q | q; exact absurd q id; exact .inr (by omega), fun i hi => by rcases h.sp i hi with q | q; exact absurd q id; exact .inr (by omega), h.rel⟩⟩
end
def s0D : DkS := ⟨fun _ => none, [], 1, 1⟩


theorem tNew (base : Nat) (w : World) (hb : base ≤ w.heap.size) : Calls Tryd.prog 10 #[] w fun e w' => ∃ N, e = .returned (pt N 0) ∧ DObj base w' N 0 s0D ∧ Below w.heap.size w w' :=
  (dNew_any w).mono fun e x ⟨N, M, h1, h2, h3⟩ => ⟨N, h1, DObj.low h2 hb, h3⟩
theorem tWrite {base d c : Nat} {s : DkS} (w : World) (n : Int) (t : ByteArray) (h : DObj base w d c s) (hsz : (getF s.fm n).1.length + t.size ≤ 1000000000) (hpl : s.ps.length ≤ 100000) : Calls Tryd.prog 28 #[pt d 0, .int .i64 n, .string t] w fun e w' => e = .returned (.int .i64 (wrE n)) ∧ DObj base w' d (c + 1) (wrS s n t) ∧ ButD base w w' := by
  have hlo := h.lo
  obtain ⟨M, pv, g, c', hc, hP⟩ := h
  exact (dWrite_any w (SD base w) d M pv g c' s n t w (But.refl _ _) hP.up hsz hpl).mono fun e x ⟨pv', g', c2, h1, h2, h3, h4⟩ => ⟨h1, ⟨M, pv', g', c2, by omega, h2.dn hlo⟩, h4⟩
theorem tData {base d c : Nat} {s : DkS} (w : World) (n : Int) (h : DObj base w d c s) : Calls Tryd.prog 27 #[pt d 0, .int .i64 n] w fun e w' => e = .returned (.string (datF s.fm n)) ∧ DObj base w' d c s ∧ ButD base w w' := by
  have hlo := h.lo
  obtain ⟨M, pv, g, c', hc, hP⟩ := h
  exact (dData_any w (SD base w) d M pv g c' s n w (But.refl _ _) hP.up).mono fun e x ⟨h1, h2, h4⟩ => ⟨h1, ⟨M, pv, g, c', by omega, h2.dn hlo⟩, h4⟩
theorem tFiles {base d c : Nat} {s : DkS} (w : World) (h : DObj base w d c s) (hc1 : c ≤ 1000000) : Calls Tryd.prog 26 #[pt d 0] w fun e w' => ∃ (ys : List Int) (u : Value), e = .returned u ∧ w'.ownsRow w.heap.size 3 1 u ys.length (ys.flatMap (intE .i64)) ∧ KeysF s.fm ys ∧ ys.length ≤ c ∧ DObj base w' d c s ∧ ButD base w w' := by
  have hlo := h.lo
  obtain ⟨M, pv, g, c', hc, hP⟩ := h
  exact (dFiles_any w (SD base w) d M pv g c' s w (But.refl _ _) hP.up (by omega)).mono fun e x ⟨ys, u, h1, h2, h3, h5, h6, h4⟩ => ⟨ys, u, h1, h2, h3, by omega, ⟨M, pv, g, c', hc, h6.dn hlo⟩, h4⟩
end Go.Proofs.YtfiplhnplmadmaaDoor

/- Package disk, pure: what holds of a disk's state behind writes, a sync, a crash. Conditions: none. -/
namespace Go.Proofs.YtfiplhnplmadmaaDoor
open Go.RowKit

/-- What is told of a file's pieces. -/
def sumK (ps : List PcT) (k : Int) : Int := ps.foldl (fun n p => if p.1 = k then n + p.2 else n) 0
theorem sumK_from (k : Int) : ∀ (ps : List PcT) (n : Int), ps.foldl (fun n p => if p.1 = k then n + p.2 else n) n = n + sumK ps k
  | [], n => by simp [sumK]
  | p :: r, n => by
    unfold sumK
    simp only [List.foldl_cons]
    by_cases e : p.1 = k
    · rw [if_pos e, if_pos e, sumK_from k r, sumK_from k r]; omega
    · rw [if_neg e, if_neg e, sumK_from k r, sumK_from k r]; omega
theorem sumK_cons (p : PcT) (r : List PcT) (k : Int) : sumK (p :: r) k = (if p.1 = k then p.2 else 0) + sumK r k := by
  conv => lhs; unfold sumK
  simp only [List.foldl_cons]
  by_cases e : p.1 = k
  · rw [if_pos e, if_pos e, sumK_from]; omega
  · rw [if_neg e, if_neg e, sumK_from]
theorem sumP_from : ∀ (ps : List PcT) (n : Int), ps.foldl (fun n p => n + p.2) n = n + sumP ps
  | [], n => by simp [sumP]
  | p :: r, n => by
    unfold sumP
    simp only [List.foldl_cons]
    rw [sumP_from r, sumP_from r]; omega
theorem sumP_cons (p : PcT) (r : List PcT) : sumP (p :: r) = p.2 + sumP r := by
  conv => lhs; unfold sumP
  simp only [List.foldl_cons]
  rw [sumP_from]; omega
theorem sumK_app (k : Int) : ∀ (a b : List PcT), sumK (a ++ b) k = sumK a k + sumK b k
  | [], b => by simp [sumK]
  | p :: r, b => by rw [List.cons_append, sumK_cons, sumK_cons, sumK_app k r b]; omega
theorem sumP_app : ∀ (a b : List PcT), sumP (a ++ b) = sumP a + sumP b
  | [], b => by simp [sumP]
  | p :: r, b => by rw [List.cons_append, sumP_cons, sumP_cons, sumP_app r b]; omega
theorem getF_put (fm : Int → Option FileM) (a : Int) (m : FileM) (k : Int) : getF (putF fm a m) k = if k = a then m else getF fm k := by
  unfold getF putF; by_cases e : k = a <;> simp [e]
/-- What holds of a disk's state behind m writes of at most 1048576 bytes each. -/
structure DkI (s : DkS) (m : Nat) : Prop where
  len : ∀ k, ((getF s.fm k).1.length : Int) ≤ m * 1048576
  pos : ∀ p ∈ s.ps, 0 ≤ p.2
  sum : ∀ k, (getF s.fm k).2.1 + sumK s.ps k = ((getF s.fm k).1.length : Int)
  saf : ∀ k, 0 ≤ (getF s.fm k).2.1
  tot : sumP s.ps ≤ m * 1048576
  pl : s.ps.length ≤ m
  cov : ∀ k, (s.fm k).isSome = true → (getF s.fm k).2.2 = true ∨ ∃ p ∈ s.ps, p.1 = k
theorem s0_I : DkI s0D 0 := ⟨fun k => by simp [s0D, getF, mz], fun p hp => (by cases hp), fun k => by simp [s0D, getF, mz, sumK], fun k => by simp [s0D, getF, mz], by simp [s0D, sumP], by simp [s0D], fun k h => by simp [s0D] at h⟩
theorem DkI.up {s : DkS} {m m' : Nat} (h : DkI s m) (hm : m ≤ m') : DkI s m' :=
  ⟨fun k => by have := h.len k; omega, h.pos, h.sum, h.saf, by have := h.tot; omega, by have := h.pl; omega, h.cov⟩
theorem size_bytes (t : ByteArray) : t.data.toList.length = t.size := rfl
theorem DkI.write {s : DkS} {m : Nat} (h : DkI s m) (n : Int) (t : ByteArray) (ht : t.size ≤ 1048576) : DkI (wrS s n t) (m + 1) := by
  unfold wrS
  by_cases he : wrE n = 0
  · rw [if_pos he]
    refine ⟨fun k => ?_, fun p hp => ?_, fun k => ?_, fun k => ?_, ?_, ?_, fun k hk => ?_⟩
    · have hl := h.len k
      show ((getF (putF s.fm n _) k).1.length : Int) ≤ _
      rw [getF_put]
      by_cases e : k = n
      · subst e; rw [if_pos rfl]; simp only [List.length_append, size_bytes]; omega
      · rw [if_neg e]; omega
    · rcases List.mem_append.1 hp with hp | hp
      · exact h.pos p hp
      · simp at hp; subst hp; show (0 : Int) ≤ (t.size : Int); omega
    · have hs := h.sum k
      show (getF (putF s.fm n _) k).2.1 + sumK (s.ps ++ [(n, (t.size : Int))]) k = ((getF (putF s.fm n _) k).1.length : Int)
      rw [getF_put, sumK_app, sumK_cons]
      by_cases e : k = n
      · subst e; rw [if_pos rfl, if_pos rfl]; simp only [List.length_append, size_bytes, sumK, List.foldl_nil] at *; omega
      · rw [if_neg e, if_neg (fun q => e q.symm)]; simp only [sumK, List.foldl_nil] at *; omega
    · show 0 ≤ (getF (putF s.fm n _) k).2.1
      rw [getF_put]
      by_cases e : k = n
      · rw [if_pos e]; exact h.saf n
      · rw [if_neg e]; exact h.saf k
    · have := h.tot
      show sumP (s.ps ++ [(n, (t.size : Int))]) ≤ _
      rw [sumP_app, sumP_cons]; simp only [sumP, List.foldl_nil] at *; omega
    · have := h.pl
      show (s.ps ++ [(n, (t.size : Int))]).length ≤ m + 1
      simp; omega
    · by_cases e : k = n
      · exact .inr ⟨(n, (t.size : Int)), by simp, e.symm⟩
      · have hk' : (s.fm k).isSome = true := by
          have : putF s.fm n ((getF s.fm n).1 ++ t.data.toList, (getF s.fm n).2) k = s.fm k := by unfold putF; rw [if_neg e]
          rw [← this]; exact hk
        rcases h.cov k hk' with q | ⟨p, hp, q⟩
        · left; show (getF (putF s.fm n _) k).2.2 = true; rw [getF_put, if_neg e]; exact q
        · exact .inr ⟨p, by simp [hp], q⟩
  · rw [if_neg he]; exact h.up (by omega)
section
variable {s : DkS} {m : Nat}
theorem DkI.hsz (h : DkI s m) (hm : m ≤ 900) (n : Int) {t : ByteArray} (ht : t.size ≤ 1048576) : (getF s.fm n).1.length + t.size ≤ 1000000000 := by
  have := h.len n; omega
theorem DkI.hpl (h : DkI s m) (hm : m ≤ 900) : s.ps.length ≤ 100000 := by have := h.pl; omega
end
end Go.Proofs.YtfiplhnplmadmaaDoor

/- The sum as plain mathematics: a word that is turned bit by bit. Conditions: none. -/
namespace Go.Proofs.YtfiplhnplmadmaaDoor

/-- One step: the lowest bit goes; if it was a one, the word is changed. -/
def lfs (c : Nat) : Nat := (c / 2) ^^^ (if c % 2 = 1 then 3988292384 else 0)
/-- So many steps. -/
def lfn : Nat → Nat → Nat
  | 0, c => c
  | n + 1, c => lfn n (lfs c)

theorem lfs_xor (a b : Nat) : lfs (a ^^^ b) = lfs a ^^^ lfs b := by
  unfold lfs
  have hm : (a ^^^ b) % 2 = (a % 2) ^^^ (b % 2) := Nat.xor_mod_two_pow (n := 1)
  rw [Nat.xor_div_two, hm]
  have ha : a % 2 = 0 ∨ a % 2 = 1 := by omega
  have hb : b % 2 = 0 ∨ b % 2 = 1 := by omega
  rcases ha with ha | ha <;> rcases hb with hb | hb <;> rw [ha, hb]
  · simp
  · simp [Nat.xor_assoc]
  · simp only [if_true, Nat.zero_ne_one, if_false, Nat.xor_zero]
    rw [Nat.xor_assoc, Nat.xor_assoc, Nat.xor_comm (b / 2)]
  · simp only [Nat.xor_self, if_true, Nat.zero_ne_one, if_false, Nat.xor_zero]
    rw [Nat.xor_assoc, ← Nat.xor_assoc 3988292384, Nat.xor_comm 3988292384, Nat.xor_assoc (b / 2), Nat.xor_self, Nat.xor_zero]
theorem lfs_lt {c : Nat} (h : c < 4294967296) : lfs c < 4294967296 := by
  unfold lfs
  exact Nat.xor_lt_two_pow (n := 32) (by omega) (by split <;> decide)
theorem lfn_xor : ∀ (n a b : Nat), lfn n (a ^^^ b) = lfn n a ^^^ lfn n b
  | 0, _, _ => rfl
  | n + 1, a, b => by show lfn n (lfs (a ^^^ b)) = _; rw [lfs_xor, lfn_xor n]; rfl
theorem lfn_lt : ∀ (n : Nat) {c : Nat}, c < 4294967296 → lfn n c < 4294967296
  | 0, _, h => h
  | n + 1, _, h => lfn_lt n (lfs_lt h)
theorem lfn_add : ∀ (m n c : Nat), lfn n (lfn m c) = lfn (m + n) c
  | 0, n, c => by rw [Nat.zero_add]; rfl
  | m + 1, n, c => by rw [show m + 1 + n = (m + n) + 1 by omega]; exact lfn_add m n (lfs c)
/-- So many steps at once: the low bits' part, and what is above. -/
theorem lfn_split : ∀ (n c : Nat), lfn n c = c / 2 ^ n ^^^ lfn n (c % 2 ^ n)
  | 0, c => by simp [lfn, Nat.mod_one]
  | n + 1, c => by
    have e1 : c % 2 ^ (n + 1) / 2 = c / 2 % 2 ^ n := by
      rw [Nat.pow_succ, Nat.mul_comm, Nat.mod_mul_right_div_self]
    have e2 : c % 2 ^ (n + 1) % 2 = c % 2 := by
      rw [Nat.pow_succ, Nat.mul_comm]; exact Nat.mod_mul_right_mod c 2 (2 ^ n)
    show lfn n (lfs c) = _ ^^^ lfn n (lfs (c % 2 ^ (n + 1)))
    unfold lfs
    rw [e1, e2, lfn_xor, lfn_xor, lfn_split n (c / 2), Nat.div_div_eq_div_mul, Nat.xor_assoc, show 2 * 2 ^ n = 2 ^ (n + 1) by rw [Nat.pow_succ]; omega]
theorem lfn_4 (c : Nat) : lfn 4 c = c / 16 ^^^ lfn 4 (c % 16) := lfn_split 4 c
theorem lfn_44 (c : Nat) : lfn 4 (lfn 4 c) = lfn 8 c := lfn_add 4 4 c

/-- What is made of a word by bytes. -/
def run (c : Nat) (l : List UInt8) : Nat := l.foldl (fun c b => lfn 8 (c ^^^ b.toNat)) c
theorem run_snoc (c : Nat) (l : List UInt8) (b : UInt8) : run c (l ++ [b]) = lfn 8 (run c l ^^^ b.toNat) := by simp [run]
theorem u8_lt (b : UInt8) : b.toNat < 256 := b.toNat_lt
/-- All bits turned. -/
def comp (c : Nat) : Nat := 4294967295 - c
theorem comp_xor {c : Nat} (h : c < 4294967296) : comp c = c ^^^ 4294967295 := by
  have h1 : (~~~ (BitVec.ofNat 32 c)).toNat = 4294967295 - c := by
    rw [BitVec.toNat_not, BitVec.toNat_ofNat, Nat.mod_eq_of_lt (by omega)]
  have h2 : (BitVec.ofNat 32 c ^^^ BitVec.allOnes 32).toNat = c ^^^ 4294967295 := by
    rw [BitVec.toNat_xor, BitVec.toNat_ofNat, Nat.mod_eq_of_lt (by omega)]; rfl
  rw [BitVec.xor_allOnes] at h2
  unfold comp
  rw [← h1, h2]
theorem comp_lt (c : Nat) : comp c < 4294967296 := by unfold comp; omega
/-- The sum of a text that goes on from c. -/
def addOf (c : Nat) (l : List UInt8) : Nat := comp (run (comp c) l)
theorem addOf_lt (c : Nat) (l : List UInt8) : addOf c l < 4294967296 := comp_lt _
end Go.Proofs.YtfiplhnplmadmaaDoor

/- Package sum: Sum, at every text. Conditions: the table reads as it is laid. -/
namespace Go.Proofs.YtfiplhnplmadmaaDoor
open Go.RowKit Go.PlainAid

/-- The table reads as it is laid. -/
def Tab (w : World) : Prop := ∀ i, i < 16 → w.cell? ⟨0, i, none⟩ = some (.int .u32 (lfn 4 i : Nat))
theorem wrap_u32 (n : Int) : IntKind.u32.wrap n = n % 4294967296 := by simp [IntKind.wrap, IntKind.bits, IntKind.signed]
theorem bits_xor_u32 (a b : Nat) (ha : a < 4294967296) (hb : b < 4294967296) : bits .xor .u32 (a : Int) (b : Int) = ((a ^^^ b : Nat) : Int) := by
  have hx : a ^^^ b < 2 ^ 32 := Nat.xor_lt_two_pow (by omega) (by omega)
  have h1 : (BitVec.ofInt 32 (a : Int)).toNat = a := by
    rw [BitVec.ofInt_natCast, BitVec.toNat_ofNat]; exact Nat.mod_eq_of_lt (by omega)
  have h2 : (BitVec.ofInt 32 (b : Int)).toNat = b := by
    rw [BitVec.ofInt_natCast, BitVec.toNat_ofNat]; exact Nat.mod_eq_of_lt (by omega)
  show IntKind.u32.wrap ((BitVec.ofInt 32 (a : Int) ^^^ BitVec.ofInt 32 (b : Int)).toNat : Int) = _
  rw [BitVec.toNat_xor, h1, h2, wrap_u32]
  omega

theorem bits_and_15 (a : Nat) (ha : a < 4294967296) : bits .and .u32 (a : Int) 15 = ((a % 16 : Nat) : Int) := by
  have h1 : (BitVec.ofInt 32 (a : Int)).toNat = a := by
    rw [BitVec.ofInt_natCast, BitVec.toNat_ofNat]; exact Nat.mod_eq_of_lt (by omega)
  show IntKind.u32.wrap ((BitVec.ofInt 32 (a : Int) &&& BitVec.ofInt 32 15).toNat : Int) = _
  have h2 : (BitVec.ofInt 32 15).toNat = 15 := by decide
  rw [BitVec.toNat_and, h1, h2, wrap_u32, show (15 : Nat) = 2 ^ 4 - 1 by rfl, Nat.and_two_pow_sub_one_eq_mod]
  omega
theorem bits_not_u32 (a : Nat) (ha : a < 4294967296) : bits .xor .u32 IntKind.u32.max (a : Int) = ((comp a : Nat) : Int) := by
  rw [comp_xor ha, Nat.xor_comm, ← bits_xor_u32 4294967295 a (by omega) ha]; rfl
/-- One half of a byte, as the walk spells it. -/
theorem half_step (x : Nat) (hx : x < 4294967296) : ∃ r q y : Nat, bits .and .u32 (x : Int) 15 = (r : Int) ∧ r < 16 ∧ (x : Int) / 16 = (q : Int) ∧ bits .xor .u32 (q : Int) ((lfn 4 r : Nat) : Int) = (y : Int) ∧ y = lfn 4 x ∧ y < 4294967296 :=
  ⟨x % 16, x / 16, lfn 4 x, bits_and_15 x hx, by omega, by omega, by
    rw [bits_xor_u32 _ _ (by omega) (lfn_lt 4 (by omega)), ← lfn_4], rfl, lfn_lt 4 hx⟩
theorem take_snoc (s : ByteArray) (k : Nat) (h : k < s.size) : s.data.toList.take (k + 1) = s.data.toList.take k ++ [s[k]] := by
  rw [List.take_succ_eq_append_getElem (by simpa using h)]; rfl

set_option maxRecDepth 100000 in
set_option maxHeartbeats 800000 in
theorem sum_any (s : ByteArray) (w : World) (ht : Tab w) (hs : s.size ≤ 9223372036854775807) :
    Calls Tryd.prog 50 #[.string s] w fun e w' => e = .returned (.int .u32 (addOf 0 s.data.toList : Nat)) ∧ w = w' := by
  have HT := Lib.hid ht; clear ht
  go_enter Tryd.func50, Tryd.ntmps50
  go_wp2
  go_loopg [3, 7] (s.size + 1) (fun g s3 s7 wr => ∃ i c : Nat, s7 = .int .i64 i ∧ s3 = .int .u32 c ∧ i ≤ s.size ∧ s.size + 1 ≤ i + g ∧ Hid (c = run 4294967295 (s.data.toList.take i)) ∧ c < 4294967296 ∧ w = wr)
  case atStart => exact ⟨0, 4294967295, rfl, rfl, by omega, by omega, rfl, by omega, rfl⟩
  case round =>
    obtain ⟨i, c, rfl, rfl, hi, hg, hc, hcl, rfl⟩ := hrel
    by_cases hlt : i < s.size
    · obtain ⟨b, hb⟩ : ∃ b : UInt8, b = s[i] := ⟨_, rfl⟩
      have hb8 := u8_lt b
      obtain ⟨x, hx⟩ : ∃ x : Nat, x = c ^^^ b.toNat := ⟨_, rfl⟩
      have hxl : x < 4294967296 := by rw [hx]; exact Nat.xor_lt_two_pow (n := 32) hcl (by omega)
      have h2 : bits .xor .u32 (c : Int) ((s[i].toNat : Nat) : Int) = (x : Int) := by rw [← hb, hx]; exact bits_xor_u32 _ _ hcl (by omega)
      have h1 : (((s[i].toNat : Nat) : Int)) % 4294967296 = ((s[i].toNat : Nat) : Int) := by rw [← hb]; omega
      obtain ⟨r, q, y, h3, hr, h4, h5, hy, hyl⟩ := half_step x hxl
      obtain ⟨r', q', z, h6, hr', h7, h8, hz, hzl⟩ := half_step y hyl
      have k1 := HT.out r hr
      have k2 := HT.out r' hr'
      have HZ : Hid (z = run 4294967295 (s.data.toList.take (i + 1))) := Lib.hid (by
        rw [take_snoc s i hlt, run_snoc, ← hb, ← hc.out, ← hx, hz, hy]; exact lfn_44 x)
      clear hx hy hz hb hc
      go_wp2
      go_roundg (gk - 1)
      case rel => exact ⟨i + 1, z, by go_num, rfl, by omega, by omega, HZ.out, hzl, rfl⟩
      case measure => omega
    · have hi2 : i = s.size := by omega
      have HE : Hid (bits .xor .u32 IntKind.u32.max (c : Int) = ((addOf 0 s.data.toList : Nat) : Int)) := Lib.hid (by
        rw [bits_not_u32 c hcl]
        have e := hc.out
        rw [List.take_of_length_le (by simp; omega)] at e
        rw [e]; rfl)
      clear hi2 hc
      go_wp2
      go_ret
      exact ⟨ret_int HE.out, rfl⟩
end Go.Proofs.YtfiplhnplmadmaaDoor

/- The table of the sums, behind what came since. Conditions: none. -/
namespace Go.Proofs.YtfiplhnplmadmaaDoor
open Go.RowKit

theorem Tab.below {w w' : World} (h : Tab w) (hb : Below w.heap.size w w') : Tab w' := fun i hi => cell_below hb (h i hi)
theorem tab_pos {w : World} (h : Tab w) : 0 < w.heap.size := World.block_lt_of_cell? w _ (h 0 (by omega))
theorem Tab.since {w w' : World} (h : Tab w) {B : Nat} (hB : 0 < B) (hb : Below B w w') : Tab w' := fun i hi => by rw [hb.cell (p := ⟨0, i, none⟩) hB]; exact h i hi
theorem sum_is (s : ByteArray) (A : Nat) (w : World) (h : addOf 0 s.data.toList = A) (ht : Tab w) (hs : s.size ≤ 9223372036854775807) :
    Calls Tryd.prog 50 #[.string s] w fun e w' => e = .returned (.int .u32 (A : Nat)) ∧ w = w' :=
  (sum_any s w ht hs).mono fun _ _ ⟨he, hw⟩ => ⟨by rw [he, h], hw⟩
end Go.Proofs.YtfiplhnplmadmaaDoor

/- Package varnum: what Put, Len and the count of bytes answer for every number. Conditions: none. -/
namespace Go.Proofs.YtfiplhnplmadmaaDoor
open Go.RowKit

def wd (n : Int) : Int :=
  if n < 256 then 1 else if n < 65536 then 2 else if n < 16777216 then 3 else if n < 4294967296 then 4
  else if n < 1099511627776 then 5 else if n < 281474976710656 then 6 else if n < 72057594037927936 then 7 else 8

theorem wd_step (m : Int) (h : 0 ≤ m) (h1 : m < 18446744073709551616) (h2 : m / 256 ≠ 0) : wd m = 1 + wd (m / 256) := by
  unfold wd; repeat' split
  all_goals omega
theorem wd_bd (m : Int) : 1 ≤ wd m ∧ wd m ≤ 8 := by unfold wd; repeat' split
                                                    all_goals omega
theorem wd_end (m : Int) (h2 : m / 256 = 0) : wd m = 1 := by
  unfold wd; rw [if_pos (by omega)]
def lenOf (n : Int) : Int := if n < 248 then 1 else 1 + wd n
theorem lenOf_small (n : Int) (h : n < 248) : lenOf n = 1 := if_pos h
theorem lenOf_big (n : Int) (h : ¬ n < 248) : lenOf n = 1 + wd n := if_neg h

/-- k bytes of n, the most significant one first. -/
def be : Nat → Nat → List UInt8
  | 0, _ => []
  | k + 1, n => be k (n / 256) ++ [UInt8.ofNat n]
theorem be_len (k n : Nat) : (be k n).length = k := by
  induction k generalizing n with
  | zero => rfl
  | succ k ih => simp [be, ih]
def putL (n : Int) : List UInt8 := if n < 248 then [UInt8.ofNat n.toNat] else UInt8.ofNat (247 + wd n).toNat :: be (wd n).toNat n.toNat
theorem putL_small (n : Int) (h : n < 248) : putL n = [UInt8.ofNat n.toNat] := if_pos h
theorem putL_big (n : Int) (h : ¬ n < 248) : putL n = UInt8.ofNat (247 + wd n).toNat :: be (wd n).toNat n.toNat := if_neg h


set_option maxRecDepth 100000 in
set_option maxHeartbeats 1600000 in
theorem width_any (n : Int) (w : World) (h0 : 0 ≤ n) (h1 : n < 18446744073709551616) :
    Calls Tryd.prog 65 #[.int .u64 n] w fun e w' => e = .returned (.int .i64 (wd n)) ∧ w = w' := by
  go_enter Tryd.func65, Tryd.ntmps65
  go_wp2; go_step3; go_wp2; go_step3; go_wp2
  go_loopg [0, 3] 10 (fun g s0 s3 wr => ∃ (m : Int) (k : Nat), s0 = .int .u64 m ∧ s3 = .int .i64 k ∧ 0 ≤ m ∧ m < 18446744073709551616 ∧ k + g ≤ 11 ∧ 11 ≤ k + g ∧ 1 ≤ g ∧ wd n + 1 = k + wd m ∧ w = wr)
  case atStart => exact ⟨n, 1, rfl, rfl, h0, h1, by omega, by omega, by omega, by omega, rfl⟩
  case round =>
    obtain ⟨m, k, rfl, rfl, hm0, hm1, hk, hk2, hg, hw, rfl⟩ := hrel
    have hk8 : k ≤ 10 := by omega
    have H := Lib.hid hw; have H1 := Lib.hid hm1; clear hw h1 hm1
    go_wp2
    · have hz : m / 256 = 0 := by simpa using ‹(m / 256 == 0) = true›
      rw [Exit.noGoto_ret]; go_ret
      have := H.out; have := wd_end m hz
      exact ⟨ret_int (by omega), rfl⟩
    · have hz : m / 256 ≠ 0 := by simpa using ‹(m / 256 == 0) = false›
      have := H.out; have := wd_step m hm0 H1.out hz; have := wd_bd (m/256); have := wd_bd n; have := H1.out
      go_roundg (gk - 1)
      case rel => exact ⟨m / 256, k + 1, rfl, by go_num, by omega, by omega, by omega, by omega, by omega, by omega, rfl⟩
      case measure => omega

set_option maxRecDepth 100000 in
set_option maxHeartbeats 1600000 in
theorem len_any (n : Int) (w : World) (h0 : 0 ≤ n) (h1 : n < 18446744073709551616) :
    Calls Tryd.prog 89 #[.int .u64 n] w fun e w' => e = .returned (.int .i64 (lenOf n)) ∧ w = w' := by
  have := wd_bd n
  have H1 := Lib.hid h1; clear h1
  by_cases h : n < 248
  · rw [lenOf_small n h]
    go_enter Tryd.func89, Tryd.ntmps89
    go_wp2
    go_ret
    exact ⟨rfl, rfl⟩
  · rw [lenOf_big n h]
    go_enter Tryd.func89, Tryd.ntmps89
    go_wp2_with (go_at_call 65; refine (width_any _ _ h0 H1.out).mono ?_; rintro e w' ⟨rfl, rfl⟩)
    go_ret
    exact ⟨rfl, rfl⟩

set_option maxRecDepth 100000 in
set_option maxHeartbeats 1600000 in
theorem put_small (n : Int) (w : World) (h0 : 0 ≤ n) (h1 : n < 248) :
    Calls Tryd.prog 48 #[.int .u64 n] w fun e w' => e = .returned (.string ⟨(putL n).toArray⟩) ∧ Below w.heap.size w w' := by
  have hc := run_convert_bytes_back (P := Tryd.prog) (w.alloc (.cells #[.int .u8 n] 5)) 75 9 5 ⟨w.heap.size, 0, none⟩ 1 (putL n) Tryd.underlying75 Tryd.underlying5 Tryd.underlying9
    (by rw [putL_small n h1]; intro j hj; simp at hj; subst hj; rw [Addr.add_lit, World.cell?_alloc_mark]; simp; omega)
  rw [show (putL n).length = 1 by rw [putL_small n h1]; rfl] at hc
  go_enter Tryd.func48, Tryd.ntmps48
  go_wp2
  go_ret
  exact ⟨rfl, (Below.refl _ _).alloc (Nat.le_refl _) _⟩

theorem info_u8 : (Tryd.prog.info? 5).map (fun i => (i.zero, i.size, i.bytes)) = some (some (.int .u8 0), 1, 1) := by kernel_rfl

def bs (l : List UInt8) : List Value := l.map fun b => .int .u8 (b.toNat : Int)

theorem byte_at (n : Int) (h : 0 ≤ n) (j : Nat) : n / 2 ^ (8 * j) % 256 = ((UInt8.ofNat (n.toNat / 256 ^ j)).toNat : Int) := by
  obtain ⟨m, rfl⟩ := Int.eq_ofNat_of_zero_le h
  rw [Int.toNat_natCast, UInt8.toNat_ofNat', show (2 : Int) ^ (8 * j) = ((256 ^ j : Nat) : Int) by rw [Int.pow_mul]; norm_cast, show (2 : Nat) ^ 8 = 256 from rfl, Int.natCast_emod, Int.natCast_ediv]
  rfl
theorem u8_head (k : Nat) (h : k ≤ 8) : (247 + (k : Int)) = ((UInt8.ofNat (247 + k)).toNat : Int) := by
  rw [UInt8.toNat_ofNat']; omega
theorem be_snoc (n k i : Nat) (h : i < k) : be (i + 1) (n / 256 ^ (k - (i + 1))) = be i (n / 256 ^ (k - i)) ++ [UInt8.ofNat (n / 256 ^ (k - 1 - i))] := by
  rw [be]
  have e1 : k - (i + 1) = k - 1 - i := by omega
  have e2 : k - i = (k - 1 - i) + 1 := by omega
  rw [e1, e2, Nat.pow_succ, Nat.div_div_eq_div_mul]
theorem bs_at {l : List UInt8} {j : Nat} (hj : j < l.length) : (bs l)[j]? = some (.int .u8 (l[j].toNat : Int)) := by
  simp [bs, List.getElem?_eq_getElem hj]
set_option maxRecDepth 100000 in
set_option maxHeartbeats 1600000 in
theorem put_big (n : Int) (w : World) (h0 : 248 ≤ n) (h1 : n < 18446744073709551616) :
    Calls Tryd.prog 48 #[.int .u64 n] w fun e w' => e = .returned (.string ⟨(putL n).toArray⟩) ∧ Below w.heap.size w w' := by
  obtain ⟨i0, hi, hz0, hz1, hz2⟩ := info_parts info_u8
  obtain ⟨hk1, hk8⟩ := wd_bd n
  have H1 := Lib.hid h1; clear h1
  obtain ⟨k, hk⟩ : ∃ k : Nat, (k : Int) = wd n := ⟨(wd n).toNat, by omega⟩
  rw [← hk] at hk1 hk8
  have HK := Lib.hid hk; clear hk
  go_enter Tryd.func48, Tryd.ntmps48
  go_wp2_with (first
    | (go_at_call 65; refine (width_any _ _ (by omega) H1.out).mono ?_; rintro e w' ⟨rfl, rfl⟩; rw [← HK.out])
    | (at_make; go_loud (refine wpList_make_own _ rfl (.const (.int .i64 0)) (.tmp 15) 75 rfl w.heap.size 5 i0 (.int .u8 0) 1 Tryd.underlying75 hi hz0 hz1 .i64 .i64 (1 + (k : Int)) (k + 1) rfl rfl (by omega) (by rw [hz2]; omega) (by unfold maxLen; omega) (Nat.le_refl _) ?_); intro w1 hown1 hgr1)
    | (at_builtin; refine wpList_append_fits _ rfl (.tmp 17) (.tmp 21) 75 rfl w.heap.size 5 i0 1 Tryd.underlying75 hi hz1 w.heap.size 0 (k+1) [] rfl (hown1.alloc _) ⟨w1.heap.size, 0, none⟩ 1 1 [.int .u8 (247 + (k : Int))] rfl rfl (one_cell _ _ _) (by simp [Value.oneCell']) (by omega) ?_; intro w2 hown2 hgr2))
  have B1 : Below w.heap.size w w2 := ((((Below.refl _ _).grown hgr1 (Nat.le_refl _) (by intro k h; cases h)).alloc (by have := hgr1.size; simpa using this) _).grown hgr2 (by have := hgr1.size; simp; omega) (by intro k h; cases h; exact Nat.le_refl _))
  go_loopg [4, 24] (k + 1) (fun g s4 s24 wr => ∃ i : Nat, s4 = .slice (some ⟨w.heap.size, 0, none⟩) (i + 1) (k + 1) ∧ s24 = .int .i64 i ∧ i ≤ k ∧ i + g ≤ k + 1 ∧ k + 1 ≤ i + g ∧ 1 ≤ g ∧
    wr.ownsRow w.heap.size 5 1 s4 (i + 1) (bs (UInt8.ofNat (247 + k) :: be i (n.toNat / 256 ^ (k - i)))) ∧ Below w.heap.size w wr)
  case atStart => exact ⟨0, rfl, rfl, by omega, by omega, by omega, by omega, by have := hown2; rw [u8_head k (by omega)] at this; exact this, B1⟩
  case round =>
    clear hown2 hown1 hgr1 hgr2 B1
    obtain ⟨i, rfl, rfl, hik, hg1, hg2, hg3, hown, hbel⟩ := hrel
    have hsz := hbel.size
    have HO := Lib.hid hown; clear hown
    by_cases hlt : i < k
    · go_wp2_with (at_builtin; refine wpList_append_fits _ rfl (.tmp 27) (.tmp 36) 75 rfl w.heap.size 5 i0 1 Tryd.underlying75 hi hz1 w.heap.size (i + 1) (k+1) _ rfl (HO.out.alloc _) ⟨wr.heap.size, 0, none⟩ 1 1 [.int .u8 (n / 2 ^ (8 * (k - 1 - i)) % 256)] rfl rfl (one_cell _ _ _) (by simp [Value.oneCell']) (by omega) ?_; intro w3 hown3 hgr3)
      have hown4 := hown3
      rw [byte_at n (by omega)] at hown4
      have e : bs (UInt8.ofNat (247 + k) :: be i (n.toNat / 256 ^ (k - i))) ++ [.int .u8 ((UInt8.ofNat (n.toNat / 256 ^ (k - 1 - i))).toNat : Int)] = bs (UInt8.ofNat (247 + k) :: be (i + 1) (n.toNat / 256 ^ (k - (i + 1)))) := by
        rw [be_snoc _ _ _ hlt]; simp [bs]
      rw [e] at hown4
      clear hown3
      go_roundg (gk - 1)
      case rel => exact ⟨i + 1, rfl, by go_num, by omega, by omega, by omega, by omega, hown4, (hbel.alloc hsz _).grown hgr3 (by simp; omega) (by intro k h; cases h; exact Nat.le_refl _)⟩
      case measure => omega
    · obtain rfl : k = i := by omega
      have hl : (putL n).length = k + 1 := by rw [putL_big n (by omega)]; have := HK.out; simp [be_len]; omega
      have he : putL n = UInt8.ofNat (247 + k) :: be k (n.toNat / 256 ^ (k - k)) := by
        rw [putL_big n (by omega), ← HK.out, show (247 + (k : Int)).toNat = 247 + k by omega, Int.toNat_natCast, Nat.sub_self, Nat.pow_zero, Nat.div_one]
      have HO2 := HO.out
      rw [← he] at HO2
      have hc := run_convert_bytes_back (P := Tryd.prog) wr 75 9 5 ⟨w.heap.size, 0, none⟩ (k + 1) (putL n) Tryd.underlying75 Tryd.underlying5 Tryd.underlying9
        (by intro j hj; exact HO2.cells (g := w.heap.size) rfl j _ (bs_at hj))
      rw [hl] at hc
      have hb1 := wd_bd n
      clear HO HO2 he hl
      go_wp2
      go_ret
      exact ⟨rfl, hbel⟩

theorem put_any (n : Int) (w : World) (h0 : 0 ≤ n) (h1 : n < 18446744073709551616) :
    Calls Tryd.prog 48 #[.int .u64 n] w fun e w' => e = .returned (.string ⟨(putL n).toArray⟩) ∧ Below w.heap.size w w' := by
  by_cases h : n < 248
  · exact put_small n w h0 h
  · exact put_big n w (by omega) h1
end Go.Proofs.YtfiplhnplmadmaaDoor

/- Package varnum: what Get answers for every text and place; what was put is got. Conditions: texts of at most 2^63-1 bytes. -/
namespace Go.Proofs.YtfiplhnplmadmaaDoor
open Go.RowKit Go.PlainAid

set_option maxRecDepth 100000 in
set_option maxHeartbeats 400000 in
theorem get_direct (s : ByteArray) (a : Nat) (w : World) (hs : s.size ≤ 9223372036854775807) (ha : a < s.size) (hd : bt s a < 248) :
    Calls Tryd.prog 81 #[.string s, .int .i64 a] w fun e w' => e = .returned (.tuple #[.int .u64 (bt s a), .int .i64 (a + 1), .int .i64 0]) ∧ w = w' := by
  have hb := get_bt s
  have hb0 := bt_nonneg s a
  have hne : ((a : Int) == (s.size : Int)) = false := by simp; omega
  go_enter Tryd.func81, Tryd.ntmps81
  go_wp2
  go_ret3
  exact ⟨rfl, rfl⟩

set_option maxRecDepth 100000 in
set_option maxHeartbeats 400000 in
theorem get_none (s : ByteArray) (a : Int) (w : World) (ha : a < 0 ∨ (s.size : Int) < a) :
    Calls Tryd.prog 81 #[.string s, .int .i64 a] w fun e w' => e = .returned (.tuple #[.int .u64 0, .int .i64 0, .int .i64 1]) ∧ w = w' := by
  rcases ha with ha | ha
  · go_enter Tryd.func81, Tryd.ntmps81
    go_wp2
    go_ret3
    exact ⟨rfl, rfl⟩
  · have h0 : ¬ a < 0 := by omega
    go_enter Tryd.func81, Tryd.ntmps81
    go_wp2
    go_ret3
    exact ⟨rfl, rfl⟩

set_option maxRecDepth 100000 in
set_option maxHeartbeats 400000 in
theorem get_end (s : ByteArray) (w : World) :
    Calls Tryd.prog 81 #[.string s, .int .i64 s.size] w fun e w' => e = .returned (.tuple #[.int .u64 0, .int .i64 0, .int .i64 2]) ∧ w = w' := by
  go_enter Tryd.func81, Tryd.ntmps81
  go_wp2
  go_ret3
  exact ⟨rfl, rfl⟩

set_option maxRecDepth 100000 in
set_option maxHeartbeats 400000 in
theorem get_short (s : ByteArray) (a : Nat) (w : World) (_hs : s.size ≤ 9223372036854775807) (ha : a < s.size) (hd : 248 ≤ bt s a) (hl : (s.size : Int) - a - 1 < bt s a - 247) :
    Calls Tryd.prog 81 #[.string s, .int .i64 a] w fun e w' => e = .returned (.tuple #[.int .u64 0, .int .i64 0, .int .i64 2]) ∧ w = w' := by
  have hb := get_bt s
  have hb0 := bt_le s a
  have hne : ((a : Int) == (s.size : Int)) = false := by simp; omega
  go_enter Tryd.func81, Tryd.ntmps81
  go_wp2
  go_ret3
  exact ⟨rfl, rfl⟩

/-- The number that k bytes of s behind place a make. -/
def val (s : ByteArray) (a : Nat) : Nat → Int
  | 0 => 0
  | k + 1 => val s a k * 256 + bt s (a + k)
theorem val_nonneg (s : ByteArray) (a k : Nat) : 0 ≤ val s a k := by
  induction k with
  | zero => simp [val]
  | succ k ih => have := bt_nonneg s (a + k); simp only [val]; omega
theorem val_lt (s : ByteArray) (a k : Nat) : val s a k < 256 ^ k := by
  induction k with
  | zero => simp [val]
  | succ k ih => have := bt_le s (a + k); simp only [val, Int.pow_succ]; omega

theorem or_low (v b : Int) (h0 : 0 ≤ v) (h1 : v ≤ 72057594037927935) (b0 : 0 ≤ b) (b1 : b ≤ 255) : bits .or .u64 (v * 256) b = v * 256 + b := by
  obtain ⟨x, rfl⟩ := Int.eq_ofNat_of_zero_le h0
  obtain ⟨y, rfl⟩ := Int.eq_ofNat_of_zero_le b0
  have e : ((x : Int) * 256) = ((x * 256 : Nat) : Int) := by omega
  rw [e, u64_or_nat _ _ (by omega) (by omega)]
  have h := Nat.two_pow_add_eq_or_of_lt (i := 8) (b := y) (by omega) x
  rw [show x * 256 = 2 ^ 8 * x by omega, ← h]
  omega
theorem val_56 (s : ByteArray) (a i : Nat) (h : i < 8) : val s a i ≤ 72057594037927935 := by
  have v1 := val_lt s a i
  have : (256 : Nat) ^ i ≤ 256 ^ 7 := Nat.pow_le_pow_right (by decide) (by omega)
  have e : ((256 : Int) ^ i) = ((256 ^ i : Nat) : Int) := by rw [Int.natCast_pow]; rfl
  have : (256 : Nat) ^ 7 = 72057594037927936 := by decide
  omega

def getLong (s : ByteArray) (a k : Nat) : Value :=
  if lenOf (val s (a + 1) k) = 1 + k then .tuple #[.int .u64 (val s (a + 1) k), .int .i64 (a + 1 + k), .int .i64 0] else .tuple #[.int .u64 0, .int .i64 0, .int .i64 4]
theorem getLong_yes {s : ByteArray} {a k : Nat} (h : lenOf (val s (a + 1) k) = 1 + k) : getLong s a k = .tuple #[.int .u64 (val s (a + 1) k), .int .i64 (a + 1 + k), .int .i64 0] := if_pos h
theorem getLong_no {s : ByteArray} {a k : Nat} (h : ¬ lenOf (val s (a + 1) k) = 1 + k) : getLong s a k = .tuple #[.int .u64 0, .int .i64 0, .int .i64 4] := if_neg h

set_option maxRecDepth 100000 in
set_option maxHeartbeats 400000 in
theorem get_long (s : ByteArray) (a k : Nat) (w : World) (hs : s.size ≤ 9223372036854775807) (ha : a < s.size) (hk0 : 1 ≤ k) (hk8 : k ≤ 8) (hd : bt s a = 247 + k) (hl : a + k < s.size) :
    Calls Tryd.prog 81 #[.string s, .int .i64 a] w fun e w' => e = .returned (getLong s a k) ∧ w = w' := by
  have hb := get_bt s
  have hne : ((a : Int) == (s.size : Int)) = false := by simp; omega
  go_enter Tryd.func81, Tryd.ntmps81
  have hsub : (247 + (k : Int) - 247) = k := by omega
  go_wp2
  go_loopg [8, 45] (k + 1) (fun g s8 s45 wr => ∃ i : Nat, s8 = .int .u64 (val s (a + 1) i) ∧ s45 = .int .i64 i ∧ i ≤ k ∧ i + g ≤ k + 1 ∧ k + 1 ≤ i + g ∧ 1 ≤ g ∧ w = wr)
  case atStart => exact ⟨0, rfl, rfl, by omega, by omega, by omega, by omega, rfl⟩
  case round =>
    obtain ⟨i, rfl, rfl, hik, hg1, hg2, hg3, rfl⟩ := hrel
    have v0 := val_nonneg s (a + 1) i
    have v1 := val_lt s (a + 1) i
    by_cases hlt : i < k
    · have v2 := val_56 s (a + 1) i (by omega)
      have b0 := bt_nonneg s (a + 1 + i)
      have b1 := bt_le s (a + 1 + i)
      have hor := or_low _ _ v0 v2 b0 b1
      clear v1
      go_wp2
      go_roundg (gk - 1)
      case rel => exact ⟨i + 1, by simp [val], by go_num, by omega, by omega, by omega, by omega, rfl⟩
      case measure => omega
    · obtain rfl : k = i := by omega
      have v3 : val s (a + 1) k < 18446744073709551616 := by
        have : (256 : Nat) ^ k ≤ 256 ^ 8 := Nat.pow_le_pow_right (by decide) (by omega)
        have e : ((256 : Int) ^ k) = ((256 ^ k : Nat) : Int) := by rw [Int.natCast_pow]; rfl
        have : (256 : Nat) ^ 8 = 18446744073709551616 := by decide
        omega
      have H3 := Lib.hid v3; clear v3 v1
      by_cases hle : lenOf (val s (a + 1) k) = 1 + k
      · have HL := Lib.hid (getLong_yes hle)
        have hb1 : (lenOf (val s (a + 1) k) != 1 + (k : Int)) = false := by simp [hle]
        clear hle
        go_wp2_with (go_at_call 89; refine (len_any _ _ v0 H3.out).mono ?_; rintro e w' ⟨rfl, rfl⟩)
        go_ret3
        exact ⟨by rw [HL.out]; rfl, rfl⟩
      · have HL := Lib.hid (getLong_no hle)
        have hb1 : (lenOf (val s (a + 1) k) != 1 + (k : Int)) = true := by simp [hle]
        clear hle
        go_wp2_with (go_at_call 89; refine (len_any _ _ v0 H3.out).mono ?_; rintro e w' ⟨rfl, rfl⟩)
        go_ret3
        exact ⟨by rw [HL.out]; rfl, rfl⟩

/-- What Get answers: the number, the place behind it, the error. -/
def getR (s : ByteArray) (a : Int) : Int × Int × Int :=
  if a < 0 ∨ (s.size : Int) < a then (0, 0, 1) else if a = s.size then (0, 0, 2)
  else if bt s a.toNat < 248 then (bt s a.toNat, a + 1, 0)
  else if (s.size : Int) - a - 1 < bt s a.toNat - 247 then (0, 0, 2)
  else if lenOf (val s (a.toNat + 1) (bt s a.toNat - 247).toNat) = bt s a.toNat - 246 then (val s (a.toNat + 1) (bt s a.toNat - 247).toNat, a + 1 + (bt s a.toNat - 247), 0)
  else (0, 0, 4)
def getV (r : Int × Int × Int) : Value := .tuple #[.int .u64 r.1, .int .i64 r.2.1, .int .i64 r.2.2]

theorem get_any (s : ByteArray) (a : Int) (w : World) (hs : s.size ≤ 9223372036854775807) :
    Calls Tryd.prog 81 #[.string s, .int .i64 a] w fun e w' => e = .returned (getV (getR s a)) ∧ w = w' := by
  by_cases h1 : a < 0 ∨ (s.size : Int) < a
  · rw [show getR s a = (0, 0, 1) from if_pos h1]; exact get_none s a w h1
  obtain ⟨n, rfl⟩ := Int.eq_ofNat_of_zero_le (show 0 ≤ a by omega)
  unfold getR
  rw [if_neg h1, Int.toNat_natCast]
  by_cases h2 : (n : Int) = s.size
  · rw [if_pos h2, h2]; exact get_end s w
  rw [if_neg h2]
  have hn : n < s.size := by omega
  by_cases h3 : bt s n < 248
  · rw [if_pos h3]; exact get_direct s n w hs hn h3
  rw [if_neg h3]
  have hb := bt_le s n
  by_cases h4 : (s.size : Int) - n - 1 < bt s n - 247
  · rw [if_pos h4]; exact get_short s n w hs hn (by omega) h4
  rw [if_neg h4]
  obtain ⟨k, hk⟩ := Int.eq_ofNat_of_zero_le (show 0 ≤ bt s n - 247 by omega)
  rw [show bt s n - 246 = 1 + k by omega, hk, Int.toNat_natCast]
  have := get_long s n k w hs hn (by omega) (by omega) (by omega) (by omega)
  unfold getLong at this
  by_cases h5 : lenOf (val s (n + 1) k) = 1 + k
  · rw [if_pos h5] at this ⊢; exact this
  · rw [if_neg h5] at this ⊢; exact this

theorem bt_data (s : ByteArray) (i : Nat) : bt s i = ((s.data.toList.getD i 0).toNat : Int) := by
  unfold bt
  by_cases h : i < s.size
  · rw [dif_pos h]
    have h' : i < s.data.toList.length := by simpa using h
    simp only [List.getD, List.getElem?_eq_getElem h', Option.getD_some]
    rfl
  · rw [dif_neg h]
    have h' : s.data.toList.length ≤ i := by simpa using h
    simp [List.getD, List.getElem?_eq_none h']
theorem lenOf_bd (n : Int) : 1 ≤ lenOf n ∧ lenOf n ≤ 9 := by unfold lenOf; have := wd_bd n; split <;> omega
theorem putL_len (n : Int) : ((putL n).length : Int) = lenOf n := by
  unfold putL lenOf; have := wd_bd n
  split
  · rfl
  · simp [be_len]; omega
/-- The bytes from place a on are those of l. -/
def has (s : ByteArray) (a : Nat) (l : List UInt8) : Prop := ∀ j (h : j < l.length), bt s (a + j) = (l[j].toNat : Int)
theorem has_app {s : ByteArray} {a : Nat} {l m : List UInt8} (h : has s a (l ++ m)) : has s a l ∧ has s (a + l.length) m := by
  refine ⟨fun j hj => ?_, fun j hj => ?_⟩
  · have := h j (by simp; omega); rw [List.getElem_append_left hj] at this; exact this
  · have := h (l.length + j) (by simp; omega); rw [List.getElem_append_right (by omega)] at this; simpa [Nat.add_assoc] using this
theorem val_be {s : ByteArray} {a : Nat} (k n : Nat) (h : has s a (be k n)) : val s a k = ((n % 256 ^ k : Nat) : Int) := by
  induction k generalizing n with
  | zero => simp [val, Nat.mod_one]
  | succ k ih =>
    rw [be] at h
    obtain ⟨h1, h2⟩ := has_app h
    have hb := h2 0 (by simp)
    rw [be_len] at hb
    simp only [Nat.add_zero, List.getElem_cons_zero, UInt8.toNat_ofNat', show (2 : Nat) ^ 8 = 256 from rfl] at hb
    rw [val, ih _ h1, hb]
    have e : n % 256 ^ (k + 1) = n / 256 % 256 ^ k * 256 + n % 256 := by
      rw [Nat.pow_succ, Nat.mul_comm (256 ^ k) 256, Nat.mod_mul]; omega
    rw [e]; omega
theorem wd_pow (n : Int) (h1 : n < 18446744073709551616) : n.toNat < 256 ^ (wd n).toNat := by
  unfold wd; repeat' split
  all_goals simp; omega
theorem get_put {s : ByteArray} {a : Nat} (n : Int) (h0 : 0 ≤ n) (h1 : n < 18446744073709551616) (hs : a + (putL n).length ≤ s.size) (h : has s a (putL n)) : getR s a = (n, a + lenOf n, 0) := by
  have hl := putL_len n
  have hl2 := lenOf_bd n
  have hw := wd_bd n
  unfold getR
  rw [if_neg (by omega), if_neg (by omega), Int.toNat_natCast]
  by_cases hn : n < 248
  · rw [putL_small n hn] at h
    have hb := h 0 (by simp)
    simp only [Nat.add_zero, List.getElem_cons_zero, UInt8.toNat_ofNat', show (2 : Nat) ^ 8 = 256 from rfl] at hb
    rw [if_pos (by omega), lenOf_small n hn]
    congr 1; omega
  · have hlo := lenOf_big n hn
    rw [putL_big n hn] at h
    have hb := h 0 (by simp)
    simp only [Nat.add_zero, List.getElem_cons_zero, UInt8.toNat_ofNat', show (2 : Nat) ^ 8 = 256 from rfl] at hb
    have hb2 : bt s a = 247 + wd n := by omega
    rw [if_neg (by omega), if_neg (by omega), show bt s a - 247 = wd n by omega]
    have hv := val_be (wd n).toNat n.toNat ((has_app (l := [_]) h).2)
    rw [Nat.mod_eq_of_lt (wd_pow n h1)] at hv
    have hv2 : val s (a + 1) (wd n).toNat = n := by simp only [List.length_cons, List.length_nil, Nat.zero_add] at hv; omega
    rw [hv2, if_pos (by omega), hlo]
    congr 2; omega
end Go.Proofs.YtfiplhnplmadmaaDoor

/- Package varnum: the walk of the law 'there and back'. Conditions: texts within the form's own reach. -/
namespace Go.Proofs.YtfiplhnplmadmaaDoor
open Go.RowKit Go.PlainAid

theorem bt_app_left (a b : ByteArray) (i : Nat) (h : i < a.size) : bt (a ++ b) i = bt a i := by
  rw [bt_data, bt_data, ByteArray.data_append, Array.toList_append]
  simp only [List.getD, List.getElem?_append_left (show i < a.data.toList.length by simpa using h)]
theorem bt_app_right (a b : ByteArray) (i : Nat) : bt (a ++ b) (a.size + i) = bt b i := by
  rw [bt_data, bt_data, ByteArray.data_append, Array.toList_append]
  simp only [List.getD]
  rw [List.getElem?_append_right (show a.data.toList.length ≤ a.size + i by simp), show a.size + i - a.data.toList.length = i by simp]
theorem bt_lit (l : List UInt8) (i : Nat) (h : i < l.length) : bt ⟨l.toArray⟩ i = (l[i].toNat : Int) := by
  rw [bt_data]; simp [List.getD, List.getElem?_eq_getElem h]
theorem has_mid (a c : ByteArray) (l : List UInt8) : has (a ++ ⟨l.toArray⟩ ++ c) a.size l := by
  intro j hj
  rw [bt_app_left _ _ _ (by rw [ByteArray.size_append]; show _ < a.size + l.length; omega), bt_app_right, bt_lit _ _ hj]

theorem getR_go (s : ByteArray) (a : Nat) (h : (getR s a).2.2 = 0) : (a : Int) < (getR s a).2.1 ∧ (getR s a).2.1 ≤ s.size ∧ 0 ≤ (getR s a).1 ∧ (getR s a).1 < 18446744073709551616 := by
  unfold getR at h ⊢
  have b0 := bt_nonneg s (a : Int).toNat
  have b1 := bt_le s (a : Int).toNat
  split
  · rename_i h1; rw [if_pos h1] at h; simp at h
  rename_i h1; rw [if_neg h1] at h
  split
  · rename_i h2; rw [if_pos h2] at h; simp at h
  rename_i h2; rw [if_neg h2] at h
  split
  · simp only; omega
  rename_i h3; rw [if_neg h3] at h
  split
  · rename_i h4; rw [if_pos h4] at h; simp at h
  rename_i h4; rw [if_neg h4] at h
  split
  · have hv := val_nonneg s ((a : Int).toNat + 1) (bt s (a : Int).toNat - 247).toNat
    have hv1 := val_lt s ((a : Int).toNat + 1) (bt s (a : Int).toNat - 247).toNat
    have : (256 : Nat) ^ (bt s (a : Int).toNat - 247).toNat ≤ 256 ^ 8 := Nat.pow_le_pow_right (by decide) (by omega)
    have e : ((256 : Int) ^ (bt s (a : Int).toNat - 247).toNat) = ((256 ^ (bt s (a : Int).toNat - 247).toNat : Nat) : Int) := by rw [Int.natCast_pow]; rfl
    have : (256 : Nat) ^ 8 = 18446744073709551616 := by decide
    simp only; omega
  · rename_i h5; rw [if_neg h5] at h; simp at h

end Go.Proofs.YtfiplhnplmadmaaDoor

/- The reference of package varnum (needs, Put, Get, All): it answers what the package does. Conditions: texts of at most 2^63-1 bytes, for All 2^43. -/
namespace Go.Proofs.YtfiplhnplmadmaaDoor
open Go.RowKit Go.PlainAid

/-- The bytes while they are written: i of them are still zero. -/
def half (k i n : Nat) : List UInt8 := UInt8.ofNat (247 + k) :: (List.replicate i 0 ++ be (k - i) n)
end Go.Proofs.YtfiplhnplmadmaaDoor

/- Package frame, and the document's own: four bytes of a sum; Put. Conditions: the table reads as it is laid. -/
namespace Go.Proofs.YtfiplhnplmadmaaDoor
open Go.RowKit Go.PlainAid

def fourL (c : Nat) : List UInt8 := [UInt8.ofNat (c / 16777216), UInt8.ofNat (c / 65536), UInt8.ofNat (c / 256), UInt8.ofNat c]
def fourB (c : Nat) : ByteArray := ⟨(fourL c).toArray⟩
theorem four_cells (c : Nat) (w : World) (hc : c < 4294967296) : ∀ j (hj : j < (fourL c).length), (w.alloc (.cells #[.int .u8 ((c : Int) / 16777216), .int .u8 ((c : Int) / 65536 % 256), .int .u8 ((c : Int) / 256 % 256), .int .u8 ((c : Int) % 256)] 5)).cell? ((⟨w.heap.size, 0, none⟩ : Addr).add j) = some (.int .u8 ((fourL c)[j].toNat : Int)) := by
  intro j hj
  have h : (w.alloc (.cells #[.int .u8 ((c : Int) / 16777216), .int .u8 ((c : Int) / 65536 % 256), .int .u8 ((c : Int) / 256 % 256), .int .u8 ((c : Int) % 256)] 5)).heap[w.heap.size]? = some (.cells #[.int .u8 ((c : Int) / 16777216), .int .u8 ((c : Int) / 65536 % 256), .int .u8 ((c : Int) / 256 % 256), .int .u8 ((c : Int) % 256)] 5 (0, 0)) := by
    show (w.heap.push _)[w.heap.size]? = _
    simp
  have hj4 : j < 4 := hj
  rw [Addr.add_lit]
  unfold World.cell?
  rw [h]
  match j, hj4 with
  | 0, _ => simp [fourL]; omega
  | 1, _ => simp [fourL]
  | 2, _ => simp [fourL]
  | 3, _ => simp [fourL]
set_option maxHeartbeats 400000 in
theorem four_any (c : Nat) (w : World) (hc : c < 4294967296) :
    Calls Tryd.prog 49 #[.int .u32 c] w fun e w' => e = .returned (.string (fourB c)) ∧ Below w.heap.size w w' := by
  have hcv := run_convert_bytes_back (P := Tryd.prog) (w.alloc (.cells #[.int .u8 ((c : Int) / 16777216), .int .u8 ((c : Int) / 65536 % 256), .int .u8 ((c : Int) / 256 % 256), .int .u8 ((c : Int) % 256)] 5)) 75 9 5 ⟨w.heap.size, 0, none⟩ 4 (fourL c) Tryd.underlying75 Tryd.underlying5 Tryd.underlying9 (four_cells c w hc)
  rw [show (fourL c).length = 4 from rfl] at hcv
  go_enter Tryd.func49, Tryd.ntmps49
  go_wp2
  go_ret
  exact ⟨rfl, (Below.refl _ _).alloc (Nat.le_refl _) _⟩
theorem mk_size (l : List UInt8) : (⟨l.toArray⟩ : ByteArray).size = l.length := rfl
/-- A frame: how long the text is, the sum of that and the text, the text. -/
def numB (s : ByteArray) : ByteArray := ⟨(putL (s.size : Int)).toArray⟩
def frameB (s : ByteArray) : ByteArray := numB s ++ fourB (addOf 0 (numB s ++ s).data.toList) ++ s
theorem numB_size (s : ByteArray) : (numB s).size ≤ 9 := by
  have h := putL_len (s.size : Int)
  have h2 := lenOf_bd (s.size : Int)
  have : (numB s).size = (putL (s.size : Int)).length := mk_size _
  omega
def putR (s : ByteArray) : ByteArray × Int := if 65536 < s.size then (⟨#[]⟩, 3) else (frameB s, 0)
def putV (r : ByteArray × Int) : Value := .tuple #[.string r.1, .int .i64 r.2]

set_option maxRecDepth 100000 in
set_option maxHeartbeats 800000 in
theorem put_frame (s : ByteArray) (w : World) (ht : Tab w) (hs : s.size ≤ 140737488351232) :
    Calls Tryd.prog 32 #[.string s] w fun e w' => e = .returned (putV (putR s)) ∧ Below w.heap.size w w' := by
  by_cases h : 65536 < s.size
  · have HR := Lib.hid (show putR s = (⟨#[]⟩, 3) from if_pos h)
    rw [HR.out]
    clear ht
    go_enter Tryd.func32, Tryd.ntmps32
    go_wp2
    go_ret2
    exact ⟨rfl, Below.refl _ _⟩
  · have HR := Lib.hid (show putR s = (frameB s, 0) from if_neg h)
    rw [HR.out]
    have HT := Lib.hid ht
    have hnb := numB_size s
    have hsz : (numB s ++ s).size ≤ 9223372036854775807 := by rw [ByteArray.size_append]; omega
    have hn2 : ¬ (9223372036854775807 < (numB s).size + s.size) := by omega
    have hf4 : ∀ c, (fourB c).size = 4 := fun _ => rfl
    have hn3 : ¬ (9223372036854775807 < (numB s).size + (fourB (addOf 0 (numB s ++ s).data.toList)).size) := by rw [hf4]; omega
    have hn4 : ¬ (9223372036854775807 < (numB s ++ fourB (addOf 0 (numB s ++ s).data.toList)).size + s.size) := by rw [ByteArray.size_append, hf4]; omega
    obtain ⟨C, hC⟩ : ∃ C, addOf 0 (numB s ++ s).data.toList = C := ⟨_, rfl⟩
    have hCl : C < 4294967296 := by rw [← hC]; exact addOf_lt _ _
    rw [hC] at hn3 hn4
    have HF : Hid (frameB s = numB s ++ fourB C ++ s) := Lib.hid (by rw [← hC]; rfl)
    have HC := Lib.hid hC; have HSZ := Lib.hid hsz
    clear hC hsz hf4 ht
    have hwu : IntKind.u64.wrap (s.size : Int) = (s.size : Int) := u64_nonneg (by omega) (by omega)
    go_enter Tryd.func32, Tryd.ntmps32
    go_wp2_with fail
    refine (put_any (s.size : Int) _ (by omega) (by omega)).mono ?_
    rintro e w1 ⟨rfl, hb1⟩
    have HB1 := Lib.hid hb1; have HT1 := Lib.hid (HT.out.below hb1)
    clear hb1
    obtain ⟨nb, hnbe⟩ : ∃ nb, nb = numB s := ⟨_, rfl⟩
    have e1 : (⟨(putL (s.size : Int)).toArray⟩ : ByteArray) = nb := by rw [hnbe]; rfl
    rw [e1]
    rw [← hnbe] at hnb HSZ hn2 hn3 hn4 HC HF
    clear e1 hnbe hwu
    go_wp2_with fail
    refine (sum_is _ C _ HC.out HT1.out HSZ.out).mono ?_
    rintro e w2 ⟨rfl, rfl⟩
    go_wp2_with fail
    refine (four_any C _ hCl).mono ?_
    rintro e w2 ⟨rfl, hb2⟩
    have HB2 := Lib.hid (HB1.out.trans (hb2.mono HB1.out.size))
    clear hb2
    go_wp2
    go_ret2
    exact ⟨by rw [HF.out]; rfl, HB2.out⟩
end Go.Proofs.YtfiplhnplmadmaaDoor

/- Texts cut and put together: runs as equations. Conditions: none. -/
namespace Go.Proofs.YtfiplhnplmadmaaDoor
open Go.RowKit

theorem slice_run (s : ByteArray) (i j : Nat) (I J : Int) (hI : I = (i : Int)) (hJ : J = (j : Int)) (hij : i ≤ j) (hj : j ≤ s.size) (w : World) :
    (Instr.slice 9 (.string s) (some (.int .i64 I)) (some (.int .i64 J)) none).run Tryd.prog w = .ok (.string (s.extract i j)) w := by
  subst hI hJ
  rw [run_slice_string_if w 9 s .i64 .i64 (i : Int) (j : Int) Tryd.underlying9, if_pos ⟨by omega, by omega⟩, if_pos ⟨by omega, by omega⟩]
  simp
theorem concat_run (x y : ByteArray) (h : x.size + y.size ≤ 9223372036854775807) (w : World) : (Op.stringOp .add x y).run Tryd.prog w = .ok (.string (x ++ y)) w := run_string_add_sum w x y h
end Go.Proofs.YtfiplhnplmadmaaDoor

/- Package frame, and the document's own: Next. Conditions: the table reads as it is laid. -/
namespace Go.Proofs.YtfiplhnplmadmaaDoor
open Go.RowKit Go.PlainAid

def sumAt (s : ByteArray) (a b n : Nat) : Nat := addOf 0 (s.extract a b ++ s.extract (b + 4) (b + 4 + n)).data.toList
def nextG (s : ByteArray) (a b n : Nat) : ByteArray × Int × Int :=
  if 65536 < n then (⟨#[]⟩, 0, 3) else if s.size < b + (4 + n) then (⟨#[]⟩, 0, 2)
  else if ((fourB (sumAt s a b n)).toList == (s.extract b (b + 4)).toList) = true then (s.extract (b + 4) (b + 4 + n), ((b + 4 + n : Nat) : Int), 0) else (⟨#[]⟩, 0, 9)
def nextR (s : ByteArray) (a : Int) : ByteArray × Int × Int :=
  if (getR s a).2.2 = 0 then nextG s a.toNat (getR s a).2.1.toNat (getR s a).1.toNat else (⟨#[]⟩, 0, (getR s a).2.2)
def nextV (r : ByteArray × Int × Int) : Value := .tuple #[.string r.1, .int .i64 r.2.1, .int .i64 r.2.2]
def St (w wr : World) : Prop := Tab wr ∧ Below w.heap.size w wr
theorem St.below {w w1 w2 : World} (h : St w w1) (hb : Below w1.heap.size w1 w2) : St w w2 := ⟨h.1.below hb, h.2.trans (hb.mono h.2.size)⟩
theorem St.tab {w wr : World} (h : St w wr) : Tab wr := h.1
theorem St.since {w wr : World} (h : St w wr) : Below w.heap.size w wr := h.2
theorem St.start {w : World} (h : Tab w) : St w w.drew := ⟨h, (Below.refl _ _).drew⟩
theorem getR_nat (s : ByteArray) (a : Int) (h : (getR s a).2.2 = 0) : ∃ k : Nat, a = k := by
  refine ⟨a.toNat, ?_⟩
  by_cases h1 : a < 0 ∨ (s.size : Int) < a
  · rw [show getR s a = (0, 0, 1) from if_pos h1] at h; simp at h
  · omega

set_option maxRecDepth 100000 in
set_option maxHeartbeats 1600000 in
theorem next_err (s : ByteArray) (a : Int) (w : World) (hs : s.size ≤ 281474976710656) (h : ¬ (getR s a).2.2 = 0) :
    Calls Tryd.prog 64 #[.string s, .int .i64 a] w fun e w' => e = .returned (nextV (nextR s a)) ∧ Below w.heap.size w w' := by
  have HR := Lib.hid (show nextR s a = (⟨#[]⟩, 0, (getR s a).2.2) from if_neg h)
  rw [HR.out]
  obtain ⟨⟨n, b, e⟩, hg⟩ : ∃ g, g = getR s a := ⟨_, rfl⟩
  rw [← hg] at h ⊢
  have HG := Lib.hid hg.symm
  have hne : (e != 0) = true := by simpa using h
  clear hg h
  go_enter Tryd.func64, Tryd.ntmps64
  go_wp2_with fail
  refine (get_any s a _ (by omega)).mono ?_
  rintro e w1 ⟨rfl, rfl⟩
  rw [HG.out]
  unfold getV
  go_wp2
  go_ret3
  exact ⟨rfl, Below.refl _ _⟩
set_option maxRecDepth 100000 in
set_option maxHeartbeats 1600000 in
theorem next_good (s : ByteArray) (a b n : Nat) (w : World) (ht : Tab w) (hs : s.size ≤ 281474976710656) (h : getR s a = ((n : Int), (b : Int), 0)) (hab : a < b) (hbs : b ≤ s.size) (hn : n < 18446744073709551616) :
    Calls Tryd.prog 64 #[.string s, .int .i64 a] w fun e w' => e = .returned (nextV (nextG s a b n)) ∧ Below w.heap.size w w' := by
  have HG := Lib.hid h; have HT := Lib.hid ht
  clear h ht
  by_cases hbig : 65536 < n
  · have HR := Lib.hid (show nextG s a b n = (⟨#[]⟩, 0, 3) from if_pos hbig)
    rw [HR.out]
    go_enter Tryd.func64, Tryd.ntmps64
    go_wp2_with fail
    refine (get_any s a _ (by omega)).mono ?_
    rintro e w1 ⟨rfl, rfl⟩
    rw [HG.out]
    unfold getV
    go_wp2
    go_ret3
    exact ⟨rfl, Below.refl _ _⟩
  by_cases hsh : s.size < b + (4 + n)
  · have HR := Lib.hid (show nextG s a b n = (⟨#[]⟩, 0, 2) from by unfold nextG; rw [if_neg hbig, if_pos hsh])
    rw [HR.out]
    have hi : (s.size : Int) - (b : Int) < 4 + (n : Int) := by omega
    go_enter Tryd.func64, Tryd.ntmps64
    go_wp2_with fail
    refine (get_any s a _ (by omega)).mono ?_
    rintro e w1 ⟨rfl, rfl⟩
    rw [HG.out]
    unfold getV
    go_wp2
    go_ret3
    exact ⟨rfl, Below.refl _ _⟩
  have hi : ¬ ((s.size : Int) - (b : Int) < 4 + (n : Int)) := by omega
  have hR : nextG s a b n = if ((fourB (sumAt s a b n)).toList == (s.extract b (b + 4)).toList) = true then (s.extract (b + 4) (b + 4 + n), ((b + 4 + n : Nat) : Int), 0) else (⟨#[]⟩, 0, 9) := by unfold nextG; rw [if_neg hbig, if_neg hsh]
  have HR := Lib.hid hR
  obtain ⟨C, hC⟩ : ∃ C, addOf 0 (s.extract a b ++ s.extract (b + 4) (b + 4 + n)).data.toList = C := ⟨_, rfl⟩
  have hCl : C < 4294967296 := by rw [← hC]; exact addOf_lt _ _
  have hsz : (s.extract a b ++ s.extract (b + 4) (b + 4 + n)).size ≤ 9223372036854775807 := by rw [ByteArray.size_append, ByteArray.size_extract, ByteArray.size_extract]; omega
  have hsl1 := slice_run s a b a b rfl rfl (by omega) (by omega)
  have hsl2 := slice_run s b (b + 4) b ((b : Int) + 4) rfl (by omega) (by omega) (by omega)
  have hcat := concat_run (s.extract a b) (s.extract (b + 4) (b + 4 + n)) (by rw [ByteArray.size_append] at hsz; exact hsz)
  have HC := Lib.hid hC; have HSZ := Lib.hid hsz
  have HS : Hid (sumAt s a b n = C) := Lib.hid hC
  clear hC hR hsz
  go_enter Tryd.func64, Tryd.ntmps64
  go_wp2_with fail
  refine (get_any s a _ (by omega)).mono ?_
  rintro e w1 ⟨rfl, rfl⟩
  rw [HG.out]
  unfold getV
  go_wp2_with fail
  go_region_held3 (fun w' => St w w') (first | exact St.start HT.out | exact St.below (by assumption) hb8 | assumption) (first | (go_at_call 50; have ht9 : Tab _ := St.tab (by assumption : St w _); (with_reducible refine (sum_is _ C _ HC.out ht9 HSZ.out).mono ?_); rintro e w7 ⟨rfl, rfl⟩) | (go_at_call 49; (with_reducible refine (four_any C _ hCl).mono ?_); rintro e w8 ⟨rfl, hb8⟩))
  have hq : Below w.heap.size w _ := St.since (by assumption)
  go_wp2
  · have hway : (!(fourB C).toList == (s.extract b (b + 4)).toList) = true := by assumption
    have HV : Hid (nextG s a b n = (⟨#[]⟩, 0, 9)) := Lib.hid (by
      rw [HR.out, HS.out]
      rw [if_neg (by intro h; rw [h] at hway; simp at hway)])
    go_ret3
    exact ⟨by rw [HV.out]; rfl, hq⟩
  · have hway : (!(fourB C).toList == (s.extract b (b + 4)).toList) = false := by assumption
    have HV : Hid (nextG s a b n = (s.extract (b + 4) (b + 4 + n), ((b + 4 + n : Nat) : Int), 0)) := Lib.hid (by
      rw [HR.out, HS.out]
      rw [if_pos (by cases h : ((fourB C).toList == (s.extract b (b + 4)).toList) with | true => rfl | false => rw [h] at hway; simp at hway)])
    go_ret3
    exact ⟨by rw [HV.out]; rfl, hq⟩
theorem next_any (s : ByteArray) (a : Int) (w : World) (ht : Tab w) (hs : s.size ≤ 281474976710656) :
    Calls Tryd.prog 64 #[.string s, .int .i64 a] w fun e w' => e = .returned (nextV (nextR s a)) ∧ Below w.heap.size w w' := by
  by_cases h : (getR s a).2.2 = 0
  · obtain ⟨k, rfl⟩ := getR_nat s a h
    obtain ⟨h1, h2, h3, h4⟩ := getR_go s k h
    have hR : nextR s k = nextG s k (getR s k).2.1.toNat (getR s k).1.toNat := if_pos h
    rw [hR]
    refine next_good s k _ _ w ht hs ?_ (by omega) (by omega) (by omega)
    rw [Int.toNat_of_nonneg h3, Int.toNat_of_nonneg (by omega), ← h]
  · exact next_err s a w hs h
end Go.Proofs.YtfiplhnplmadmaaDoor

/- The sum as plain mathematics: a row of bits that is turned. Conditions: none. -/
namespace Go.Proofs.YtfiplhnplmadmaaDoor

/-- The bits of the pattern that were turned in the first i rounds; the first one is always. -/
def turned (p : Nat) : Nat → Nat
  | 0 => 0
  | i + 1 => if i = 0 ∨ p.testBit i = true then turned p i ^^^ 2 ^ i else turned p i
end Go.Proofs.YtfiplhnplmadmaaDoor

/- A frame among other bytes: what Next answers; texts as lists. Conditions: none. -/
namespace Go.Proofs.YtfiplhnplmadmaaDoor
open Go.RowKit Go.PlainAid

theorem bytes_eq {a b : ByteArray} (h : a.data.toList = b.data.toList) : a = b := by
  apply ByteArray.ext
  exact Array.toList_inj.1 h
theorem ext_list (x : ByteArray) (i j : Nat) : (x.extract i j).data.toList = (x.data.toList.take j).drop i := by
  simp [ByteArray.data_extract, List.drop_take]
theorem list_len (x : ByteArray) : x.data.toList.length = x.size := by simp
theorem app_list (x y : ByteArray) : (x ++ y).data.toList = x.data.toList ++ y.data.toList := by rw [ByteArray.data_append, Array.toList_append]
theorem mid_extract (p m q : ByteArray) : (p ++ m ++ q).extract p.size (p.size + m.size) = m := by
  apply bytes_eq
  rw [ext_list, app_list, app_list]
  have hp := list_len p; have hm := list_len m
  rw [List.take_append_of_le_length (by rw [List.length_append]; omega), List.take_of_length_le (by rw [List.length_append]; omega), List.drop_append_of_le_length (by omega), List.drop_of_length_le (by omega), List.nil_append]
theorem loop_list (bs : ByteArray) : ∀ (k i : Nat) (r : List UInt8), bs.size - i = k → ByteArray.toList.loop bs i r = r.reverse ++ bs.data.toList.drop i
  | 0, i, r, h => by
    unfold ByteArray.toList.loop
    rw [if_neg (by omega), List.drop_of_length_le (by rw [list_len]; omega), List.append_nil]
  | k + 1, i, r, h => by
    unfold ByteArray.toList.loop
    have hi : i < bs.size := by omega
    have hl : i < bs.data.toList.length := by rw [list_len]; exact hi
    rw [if_pos hi, loop_list bs k (i + 1) _ (by omega), List.reverse_cons, List.append_assoc, List.drop_eq_getElem_cons hl]
    congr 2
    simp [ByteArray.get!, hi]
theorem toList_data (bs : ByteArray) : bs.toList = bs.data.toList := by
  unfold ByteArray.toList
  rw [loop_list bs bs.size 0 [] rfl]
  simp
theorem toList_beq (a b : ByteArray) : ((a.toList == b.toList) = true) ↔ a = b := by
  rw [beq_iff_eq, toList_data, toList_data]
  exact ⟨fun h => bytes_eq h, fun h => by rw [h]⟩
theorem app_assoc (x y z : ByteArray) : x ++ y ++ z = x ++ (y ++ z) := ByteArray.append_assoc

/-- What Next answers where a number, four bytes and a text stand. -/
theorem next_parts (pre s four post : ByteArray) (h4 : four.size = 4) (n : Nat) (hn : n = s.size) (hs : n ≤ 65536) :
    nextR (pre ++ ⟨(putL (n : Int)).toArray⟩ ++ four ++ s ++ post) (pre.size : Int) = if fourB (addOf 0 ((⟨(putL (n : Int)).toArray⟩ : ByteArray) ++ s).data.toList) = four then (s, ((pre.size + (putL (n : Int)).length + 4 + n : Nat) : Int), 0) else (⟨#[]⟩, 0, 9) := by
  subst hn
  obtain ⟨nb, hnb⟩ : ∃ nb : ByteArray, nb = ⟨(putL (s.size : Int)).toArray⟩ := ⟨_, rfl⟩
  have hnl : nb.size = (putL (s.size : Int)).length := by rw [hnb]; exact mk_size _
  have hsz : (pre ++ nb ++ four ++ s ++ post).size = pre.size + nb.size + 4 + s.size + post.size := by
    simp only [ByteArray.size_append]; omega
  have hhas : has (pre ++ nb ++ four ++ s ++ post) pre.size (putL (s.size : Int)) := by
    rw [app_assoc, app_assoc, hnb]
    exact has_mid pre _ _
  have hg := get_put (s := pre ++ nb ++ four ++ s ++ post) (a := pre.size) (s.size : Int) (by omega) (by omega) (by rw [hsz, ← hnl]; omega) hhas
  have hll := putL_len (s.size : Int)
  have hlb := lenOf_bd (s.size : Int)
  rw [← hnb]
  have hR : nextR (pre ++ nb ++ four ++ s ++ post) (pre.size : Int) = nextG (pre ++ nb ++ four ++ s ++ post) pre.size (pre.size + nb.size) s.size := by
    have t1 : ((pre.size : Nat) : Int).toNat = pre.size := by omega
    have t2 : (((pre.size : Nat) : Int) + lenOf (s.size : Int)).toNat = pre.size + nb.size := by rw [hnl]; omega
    have t3 : ((s.size : Nat) : Int).toNat = s.size := by omega
    unfold nextR
    rw [hg]
    show (if (0 : Int) = 0 then nextG _ ((pre.size : Nat) : Int).toNat (((pre.size : Nat) : Int) + lenOf (s.size : Int)).toNat ((s.size : Nat) : Int).toNat else _) = _
    rw [if_pos rfl, t1, t2, t3]
  rw [hR]
  unfold nextG
  rw [if_neg (by omega), if_neg (by rw [hsz]; omega)]
  have e1 : (pre ++ nb ++ four ++ s ++ post).extract pre.size (pre.size + nb.size) = nb := by
    rw [app_assoc, app_assoc]; exact mid_extract pre nb _
  have e2 : (pre ++ nb ++ four ++ s ++ post).extract (pre.size + nb.size) (pre.size + nb.size + 4) = four := by
    rw [app_assoc]
    have := mid_extract (pre ++ nb) four (s ++ post)
    rw [ByteArray.size_append, h4] at this
    exact this
  have e3 : (pre ++ nb ++ four ++ s ++ post).extract (pre.size + nb.size + 4) (pre.size + nb.size + 4 + s.size) = s := by
    have := mid_extract (pre ++ nb ++ four) s post
    rw [ByteArray.size_append, ByteArray.size_append, h4] at this
    exact this
  have e4 : sumAt (pre ++ nb ++ four ++ s ++ post) pre.size (pre.size + nb.size) s.size = addOf 0 (nb ++ s).data.toList := by
    unfold sumAt; rw [e1, e3]
  rw [e4, e2, e3]
  by_cases h : fourB (addOf 0 (nb ++ s).data.toList) = four
  · rw [if_pos ((toList_beq _ _).2 h), if_pos h, hnl]
  · rw [if_neg (fun h2 => h ((toList_beq _ _).1 h2)), if_neg h]
theorem frameB_parts (s : ByteArray) : frameB s = ⟨(putL (s.size : Int)).toArray⟩ ++ fourB (addOf 0 (numB s ++ s).data.toList) ++ s := rfl
theorem frameB_size (s : ByteArray) : (frameB s).size = (putL (s.size : Int)).length + 4 + s.size := by
  rw [frameB_parts, ByteArray.size_append, ByteArray.size_append, mk_size]; rfl
/-- A frame, whatever stands ahead and behind. -/
theorem next_frame (pre s post : ByteArray) (hs : s.size ≤ 65536) : nextR (pre ++ frameB s ++ post) (pre.size : Int) = (s, ((pre.size + (frameB s).size : Nat) : Int), 0) := by
  have h := next_parts pre s (fourB (addOf 0 (numB s ++ s).data.toList)) post rfl s.size rfl hs
  have h2 := h.trans (if_pos rfl)
  rw [frameB_size, frameB_parts, ← app_assoc, ← app_assoc, h2, show pre.size + ((putL (s.size : Int)).length + 4 + s.size) = pre.size + (putL (s.size : Int)).length + 4 + s.size by omega]
end Go.Proofs.YtfiplhnplmadmaaDoor

/- A block of bytes of the call's own, and its text. Conditions: none. -/
namespace Go.Proofs.YtfiplhnplmadmaaDoor
open Go.RowKit

/-- Block b begins with the bytes f 0 .. f (n - 1); they may be written. -/
def Bytes (w : World) (b n : Nat) (f : Nat → UInt8) : Prop := ∀ j, j < n → w.cell? ⟨b, j, none⟩ = some (.int .u8 (f j).toNat) ∧ w.frozen? ⟨b, j, none⟩ = false
theorem Bytes.set {w : World} {b n : Nat} {f : Nat → UInt8} (h : Bytes w b n f) {i : Nat} (hi : i < n) (y : UInt8) : Bytes (w.setCell ⟨b, i, none⟩ (.int .u8 y.toNat)) b n (fun j => if j = i then y else f j) := by
  intro j hj
  refine ⟨?_, by rw [World.frozen?_setCell]; exact (h j hj).2⟩
  by_cases e : j = i
  · subst e
    rw [World.cell?_setCell_same _ _ _ (h j hi).1]
    show _ = some (Value.int .u8 ((if j = j then y else f j : UInt8).toNat : Nat))
    rw [if_pos rfl]
  · rw [World.cell?_setCell_other _ _ _ _ (by first | (simp; done) | (simp; omega))]
    show _ = some (Value.int .u8 ((if j = i then y else f j : UInt8).toNat : Nat))
    rw [if_neg e]; exact (h j hj).1
theorem Bytes.congr {w : World} {b n : Nat} {f g : Nat → UInt8} (h : Bytes w b n f) (hg : ∀ j, j < n → f j = g j) : Bytes w b n g := fun j hj => by rw [← hg j hj]; exact h j hj
theorem Bytes.below {w w' : World} {b n : Nat} {f : Nat → UInt8} (h : Bytes w b n f) (hb : Below w.heap.size w w') : Bytes w' b n f := fun j hj =>
  ⟨cell_below hb (h j hj).1, by rw [hb.frozen (World.block_lt_of_cell? w _ (h j hj).1)]; exact (h j hj).2⟩
theorem strOfNums_bytes (l : List UInt8) : strOfNums (l.map fun b => ((b.toNat : Nat) : Int)) = ⟨l.toArray⟩ := by
  apply ByteArray.ext
  apply Array.toList_inj.1
  rw [strOfNums_data, List.map_map]
  show _ = l
  have : ((fun n : Int => UInt8.ofNat n.toNat) ∘ fun b : UInt8 => ((b.toNat : Nat) : Int)) = id := by
    funext b
    simp
  rw [this, List.map_id]
/-- The text of such a block. -/
theorem Bytes.text {w : World} {b n cap : Nat} {f : Nat → UInt8} (h : Bytes w b n f) {P : Program} {src dst e : TypeId} (hs : P.underlying src = some (.slice e)) (he : P.underlying e = some (.int .u8)) (hd : P.underlying dst = some .string) :
    (convert src dst (.slice (some ⟨b, 0, none⟩) n cap)).run P w = .ok (.string ⟨((List.range n).map f).toArray⟩) w := by
  rw [← strOfNums_bytes]
  refine run_convert_bytes_arg w src e hs he b 0 n cap _ (by simp) (fun i hi => ?_) dst hd
  rw [Nat.zero_add, (h i hi).1]
  simp [List.getD, hi]
end Go.Proofs.YtfiplhnplmadmaaDoor

/- Frames one behind the other, in numbers. No conditions. -/
namespace Go.Proofs.YtfiplhnplmadmaaDoor
open Go.RowKit

/-- l are the texts of the frames from a on, b is the place behind them. -/
def Run (s : ByteArray) : Int → List ByteArray → Int → Prop
  | a, [], b => b = a
  | a, t :: l, b => a < (s.size : Int) ∧ (nextR s a).2.2 = 0 ∧ t = (nextR s a).1 ∧ Run s (nextR s a).2.1 l b
/-- What is told where it stops. -/
def Ends (s : ByteArray) (b e : Int) : Prop := ((s.size : Int) ≤ b ∧ e = 0) ∨ (b < (s.size : Int) ∧ e = (nextR s b).2.2 ∧ e ≠ 0)
theorem Run.snoc {s : ByteArray} : ∀ {l : List ByteArray} {a b : Int}, Run s a l b → b < (s.size : Int) → (nextR s b).2.2 = 0 → Run s a (l ++ [(nextR s b).1]) (nextR s b).2.1
  | [], a, b, h, h1, h2 => by
    obtain rfl : b = a := h
    exact ⟨h1, h2, rfl, rfl⟩
  | t :: l, a, b, h, h1, h2 => ⟨h.1, h.2.1, h.2.2.1, Run.snoc h.2.2.2 h1 h2⟩
theorem run_det {s : ByteArray} : ∀ {l l' : List ByteArray} {a b b' e e' : Int}, Run s a l b → Ends s b e → Run s a l' b' → Ends s b' e' → l = l' ∧ b = b' ∧ e = e'
  | [], [], a, b, b', e, e', h, k, h', k' => by
    obtain rfl : b = a := h
    obtain rfl : b' = b := h'
    refine ⟨rfl, rfl, ?_⟩
    rcases k with ⟨k1, k2⟩ | ⟨k1, k2, k3⟩ <;> rcases k' with ⟨j1, j2⟩ | ⟨j1, j2, j3⟩ <;> omega
  | [], t :: l', a, b, b', e, e', h, k, h', k' => by
    obtain rfl : b = a := h
    obtain ⟨g1, g2, _, _⟩ := h'
    rcases k with ⟨k1, k2⟩ | ⟨k1, k2, k3⟩ <;> omega
  | t :: l, [], a, b, b', e, e', h, k, h', k' => by
    obtain rfl : b' = a := h'
    obtain ⟨g1, g2, _, _⟩ := h
    rcases k' with ⟨k1, k2⟩ | ⟨k1, k2, k3⟩ <;> omega
  | t :: l, t' :: l', a, b, b', e, e', h, k, h', k' => by
    obtain ⟨g1, g2, rfl, g4⟩ := h
    obtain ⟨f1, f2, rfl, f4⟩ := h'
    obtain ⟨r1, r2, r3⟩ := run_det g4 k f4 k'
    exact ⟨by rw [r1], r2, r3⟩
theorem next_adv (s : ByteArray) (a : Int) (h : (nextR s a).2.2 = 0) : 0 ≤ a ∧ a + 4 < (nextR s a).2.1 ∧ (nextR s a).2.1 ≤ (s.size : Int) := by
  by_cases hg : (getR s a).2.2 = 0
  · obtain ⟨k, rfl⟩ := getR_nat s a hg
    obtain ⟨h1, h2, h3, h4⟩ := getR_go s k hg
    have hR : nextR s k = nextG s k (getR s k).2.1.toNat (getR s k).1.toNat := if_pos hg
    rw [hR] at h ⊢
    unfold nextG at h ⊢
    split at h
    · simp at h
    · rename_i hn
      rw [if_neg hn]
      split at h
      · simp at h
      · rename_i hsz
        rw [if_neg hsz]
        split at h
        · rename_i hq
          rw [if_pos hq]
          refine ⟨by omega, ?_, ?_⟩
          · show (k : Int) + 4 < (((getR s k).2.1.toNat + 4 + (getR s k).1.toNat : Nat) : Int)
            omega
          · show (((getR s k).2.1.toNat + 4 + (getR s k).1.toNat : Nat) : Int) ≤ _
            omega
        · simp at h
  · rw [show nextR s a = (⟨#[]⟩, 0, (getR s a).2.2) from if_neg hg] at h
    exact absurd h hg
theorem Run.bound {s : ByteArray} : ∀ {l : List ByteArray} {a b : Int}, Run s a l b → 0 ≤ a → a ≤ (s.size : Int) → a + l.length ≤ b ∧ b ≤ (s.size : Int)
  | [], a, b, h, h0, h1 => by
    obtain rfl : b = a := h
    exact ⟨by simp, h1⟩
  | t :: l, a, b, h, h0, h1 => by
    obtain ⟨g1, g2, _, g4⟩ := h
    obtain ⟨n1, n2, n3⟩ := next_adv s a g2
    obtain ⟨m1, m2⟩ := Run.bound g4 (by omega) n3
    refine ⟨?_, m2⟩
    rw [List.length_cons]; omega
end Go.Proofs.YtfiplhnplmadmaaDoor

/- Frames of which the last is cut off, in numbers. No conditions. -/
namespace Go.Proofs.YtfiplhnplmadmaaDoor
open Go.RowKit Go.PlainAid

theorem two_parts {q : ByteArray} {l m : List UInt8} (h : q.data.toList = l ++ m) : q = ⟨l.toArray⟩ ++ ⟨m.toArray⟩ := by
  apply bytes_eq
  rw [app_list, h]
theorem frameB_list (s : ByteArray) : (frameB s).data.toList = putL (s.size : Int) ++ ((fourB (addOf 0 (numB s ++ s).data.toList)).data.toList ++ s.data.toList) := by
  rw [frameB_parts, app_list, app_list, List.append_assoc]
theorem next_torn (pre q x : ByteArray) (hx : x.size ≤ 65536) (hq : q.data.toList <+: (frameB x).data.toList) (h0 : 0 < q.size) (hlt : q.size < (frameB x).size) : (nextR (pre ++ q) (pre.size : Int)).2.2 = 2 := by
  have hfs := frameB_size x
  have hsz : (pre ++ q).size = pre.size + q.size := ByteArray.size_append
  have hql := list_len q
  rw [frameB_list] at hq
  have hpl := putL_len (x.size : Int)
  have hw := wd_bd (x.size : Int)
  by_cases hk : q.size < (putL (x.size : Int)).length
  · -- the number itself is cut off
    have hn : ¬ (x.size : Int) < 248 := by
      intro h
      have : (putL (x.size : Int)).length = 1 := by rw [putL_small _ h]; rfl
      omega
    have hpre : q.data.toList <+: putL (x.size : Int) := by
      obtain ⟨r, hr⟩ := hq
      refine List.prefix_of_prefix_length_le ⟨r, hr⟩ (List.prefix_append _ _) (by omega)
    have hb := putL_big (x.size : Int) hn
    have hlen : (putL (x.size : Int)).length = 1 + (wd (x.size : Int)).toNat := by rw [hb]; simp [be_len]; omega
    rw [hb] at hpre
    have hqc : ∃ q', q.data.toList = [UInt8.ofNat (247 + wd (x.size : Int)).toNat] ++ q' := by
      cases hql' : q.data.toList with
      | nil => rw [hql'] at hql; simp at hql; omega
      | cons b t =>
        rw [hql'] at hpre
        obtain ⟨r, hr⟩ := hpre
        simp only [List.cons_append, List.cons.injEq] at hr
        exact ⟨t, by rw [hr.1]; rfl⟩
    obtain ⟨q', hq'⟩ := hqc
    have hhas := has_mid pre ⟨q'.toArray⟩ [UInt8.ofNat (247 + wd (x.size : Int)).toNat]
    rw [app_assoc, ← two_parts hq'] at hhas
    have hbt := hhas 0 (by simp)
    simp only [Nat.add_zero, List.getElem_cons_zero, UInt8.toNat_ofNat', show (2 : Nat) ^ 8 = 256 from rfl] at hbt
    have hg : getR (pre ++ q) (pre.size : Int) = (0, 0, 2) := by
      unfold getR
      rw [if_neg (by omega), if_neg (by omega), Int.toNat_natCast, if_neg (by omega), if_pos (by omega)]
    rw [show nextR (pre ++ q) (pre.size : Int) = (⟨#[]⟩, 0, (getR (pre ++ q) (pre.size : Int)).2.2) from if_neg (by rw [hg]; simp), hg]
  · -- the number is whole
    have hqc : ∃ q', q.data.toList = putL (x.size : Int) ++ q' := by
      obtain ⟨r, hr⟩ := hq
      obtain ⟨t, ht⟩ := List.prefix_of_prefix_length_le (List.prefix_append (putL (x.size : Int)) _) ⟨r, hr⟩ (by omega)
      exact ⟨t, ht.symm⟩
    obtain ⟨q', hq'⟩ := hqc
    have hhas := has_mid pre ⟨q'.toArray⟩ (putL (x.size : Int))
    rw [app_assoc, ← two_parts hq'] at hhas
    have hg := get_put (s := pre ++ q) (a := pre.size) (x.size : Int) (by omega) (by omega) (by omega) hhas
    have hg0 : (getR (pre ++ q) (pre.size : Int)).2.2 = 0 := by rw [hg]
    rw [show nextR (pre ++ q) (pre.size : Int) = nextG (pre ++ q) (pre.size : Int).toNat (getR (pre ++ q) (pre.size : Int)).2.1.toNat (getR (pre ++ q) (pre.size : Int)).1.toNat from if_pos hg0, hg]
    unfold nextG
    rw [if_neg (by simp only [Int.toNat_natCast]; omega), if_pos (by simp only [Int.toNat_natCast]; omega)]
/-- Frames one behind the other. -/
def catF (l : List ByteArray) : ByteArray := l.foldl (fun s x => s ++ frameB x) ⟨#[]⟩
theorem catF_snoc (l : List ByteArray) (x : ByteArray) : catF (l ++ [x]) = catF l ++ frameB x := by simp [catF]
theorem catF_list (l m : List ByteArray) : ∃ r, (catF (l ++ m)).data.toList = (catF l).data.toList ++ r := by
  induction m generalizing l with
  | nil => exact ⟨[], by simp⟩
  | cons x m ih =>
    obtain ⟨r, hr⟩ := ih (l ++ [x])
    exact ⟨(frameB x).data.toList ++ r, by rw [show l ++ x :: m = l ++ [x] ++ m by simp, hr, catF_snoc, app_list, List.append_assoc]⟩
theorem catF_take (l : List ByteArray) (k : Nat) : (catF (l.take k)).data.toList <+: (catF l).data.toList := by
  obtain ⟨r, hr⟩ := catF_list (l.take k) (l.drop k)
  rw [List.take_append_drop] at hr
  exact ⟨r, hr.symm⟩
theorem cut_at {C P S : ByteArray} (hC : C.data.toList <+: S.data.toList) (hP : P.data.toList <+: S.data.toList) (h : P.size ≤ C.size) : ∃ q : ByteArray, C = P ++ q := by
  obtain ⟨r, hr⟩ := List.prefix_of_prefix_length_le hP hC (by rw [list_len, list_len]; exact h)
  exact ⟨⟨r.toArray⟩, bytes_eq (by rw [app_list, ← hr])⟩
theorem take_next {l : List ByteArray} {k : Nat} (h : k < l.length) : catF (l.take (k + 1)) = catF (l.take k) ++ frameB l[k] := by
  rw [List.take_succ_eq_append_getElem h, catF_snoc]
theorem run_cut (l : List ByteArray) (hl : ∀ x ∈ l, x.size ≤ 65536) (C : ByteArray) (hC : C.data.toList <+: (catF l).data.toList) : ∀ k, k ≤ l.length → (catF (l.take k)).size ≤ C.size → Run C 0 (l.take k) ((catF (l.take k)).size : Int)
  | 0, _, _ => by rw [List.take_zero]; exact rfl
  | k + 1, hk, hle => by
    have hk' : k < l.length := hk
    have hn := take_next hk'
    have hsz : (catF (l.take (k + 1))).size = (catF (l.take k)).size + (frameB l[k]).size := by rw [hn, ByteArray.size_append]
    have hf := frameB_size l[k]
    have hrun := run_cut l hl C hC k (by omega) (by omega)
    obtain ⟨q, hq⟩ := cut_at hC (catF_take l (k + 1)) hle
    rw [hn] at hq
    have hnx := next_frame (catF (l.take k)) l[k] q (hl _ (List.getElem_mem hk'))
    rw [← hq] at hnx
    have h := hrun.snoc (by omega) (by rw [hnx])
    rw [hnx] at h
    rw [List.take_succ_eq_append_getElem hk', ← List.take_succ_eq_append_getElem hk', hsz]
    rw [List.take_succ_eq_append_getElem hk']
    exact h
theorem all_cut (l : List ByteArray) (hl : ∀ x ∈ l, x.size ≤ 65536) (C : ByteArray) (hC : C.data.toList <+: (catF l).data.toList) (k : Nat) (hk : k ≤ l.length) (hle : (catF (l.take k)).size ≤ C.size)
    (hlast : k = l.length ∨ C.size < (catF (l.take (k + 1))).size) : Run C 0 (l.take k) ((catF (l.take k)).size : Int) ∧ Ends C ((catF (l.take k)).size : Int) (if (catF (l.take k)).size = C.size then 0 else 2) := by
  refine ⟨run_cut l hl C hC k hk hle, ?_⟩
  by_cases he : (catF (l.take k)).size = C.size
  · rw [if_pos he]; exact .inl ⟨by omega, rfl⟩
  · rw [if_neg he]
    refine .inr ⟨by omega, ?_, by omega⟩
    have hCl : C.size ≤ (catF l).size := by
      have := hC.length_le; rw [list_len, list_len] at this; exact this
    have hk' : k < l.length := by
      rcases Nat.lt_or_ge k l.length with h | h
      · exact h
      · have : l.take k = l := List.take_of_length_le h
        rw [this] at he hle; omega
    have hlt : C.size < (catF (l.take (k + 1))).size := by
      rcases hlast with h | h
      · omega
      · exact h
    obtain ⟨q, hq⟩ := cut_at hC (catF_take l k) hle
    have hn := take_next hk'
    have hpre : C.data.toList <+: (catF (l.take (k + 1))).data.toList := List.prefix_of_prefix_length_le hC (catF_take l (k + 1)) (by rw [list_len, list_len]; omega)
    rw [hn, app_list, hq, app_list] at hpre
    have hqp := (List.prefix_append_right_inj _).1 hpre
    have hqs : C.size = (catF (l.take k)).size + q.size := by rw [hq, ByteArray.size_append]
    have hns : (catF (l.take (k + 1))).size = (catF (l.take k)).size + (frameB l[k]).size := by rw [hn, ByteArray.size_append]
    have := next_torn (catF (l.take k)) q l[k] (hl _ (List.getElem_mem hk')) hqp (by omega) (by omega)
    rw [← hq] at this
    exact this.symm
end Go.Proofs.YtfiplhnplmadmaaDoor

/- Package frame: the iterator of All. Conditions: the table reads as it is laid. -/
namespace Go.Proofs.YtfiplhnplmadmaaDoor
open Go.RowKit Go.Shelf
attribute [local go_sem] Oper.semAt_some

abbrev Fnd := ByteArray × Int × Int
inductive FRun (s : ByteArray) : List Fnd → Int → Prop
  | nil : FRun s [] 0
  | snoc {l : List Fnd} {b : Int} : FRun s l b → b < (s.size : Int) → (nextR s b).2.2 = 0 → FRun s (l ++ [nextR s b]) (nextR s b).2.1
theorem FRun.run {s : ByteArray} {l : List Fnd} {b : Int} (h : FRun s l b) : Run s 0 (l.map fun x => x.1) b := by
  induction h with
  | nil => rfl
  | snoc h1 h2 h3 ih => rw [List.map_append]; exact ih.snoc h2 h3
theorem FRun.bound {s : ByteArray} {l : List Fnd} {b : Int} (h : FRun s l b) : (l.length : Int) ≤ b ∧ b ≤ (s.size : Int) := by
  have h1 := h.run.bound (by omega) (by omega)
  simpa using h1
def encF (x : Fnd) : Value := .agg #[.string x.1, .int .i64 x.2.1, .int .i64 x.2.2]
/-- What a round that goes on keeps. -/
def KpF (n₀ Bn : Nat) (s : ByteArray) (A B : World) : Prop := Below n₀ A B ∧ (A.cell? ⟨Bn, 0, none⟩ = some (.string s) → B.cell? ⟨Bn, 0, none⟩ = some (.string s))
theorem KpF.t {n₀ Bn : Nat} {s : ByteArray} {A B C : World} (h : KpF n₀ Bn s A B) (k : KpF n₀ Bn s B C) : KpF n₀ Bn s A C := ⟨h.1.trans k.1, fun c => k.2 (h.2 c)⟩
theorem KpF.b {n₀ Bn : Nat} {s : ByteArray} {w : World} (hn : n₀ ≤ w.heap.size) (W : World) (l : Nat) (o o' : Obj) (hl : w.heap.size ≤ l) (h : W.heap[l]? = some o) (hc : o.isCells = false) (hw : o.isWalk = false) : KpF n₀ Bn s W (W.putObj l o') :=
  ⟨belowK_b hn W l o o' hl h hc hw, fun c => cell_kept c (grownBy_putObj' W l o') (fun r e => by cases e; exact ⟨_, h, hc⟩)⟩
theorem grown_of_below {w w' : World} (h : Below w.heap.size w w') : w.grownBy w' none := ⟨h.os, h.tape, h.output, h.size, fun k hk _ => h.block k hk⟩
/-- All has come. -/
def AllF (s : ByteArray) (ys : List Fnd) : Prop := (∃ b, FRun s ys b ∧ (s.size : Int) ≤ b) ∨ ∃ ys' b, ys = ys' ++ [nextR s b] ∧ FRun s ys' b ∧ b < (s.size : Int) ∧ (nextR s b).2.2 ≠ 0
def PartF (s : ByteArray) (ys : List Fnd) : Prop := ∃ ys' b, ys = ys' ++ [nextR s b] ∧ FRun s ys' b ∧ b < (s.size : Int)

set_option maxRecDepth 100000 in
set_option maxHeartbeats 2000000 in
theorem iter_in (l Bn n₀ B : Nat) (s : ByteArray) (hs : s.size ≤ 281474976710656) (J Jx : List Fnd → World → Prop) (hJ : AbidesFrom B J)
    (hY : ∀ pre x W, J pre W → pre.length < s.size → YieldAt Fence.wide 1 Tryd.prog l #[encF x] W fun e W' =>
      (e = .returned (.bool true) ∧ J (pre ++ [x]) W' ∧ KpF n₀ Bn s W W') ∨ (e = .returned (.bool false) ∧ Jx (pre ++ [x]) W'))
    (W : World) (hn0 : 0 < n₀) (hBn : W.cell? ⟨Bn, 0, none⟩ = some (.string s)) (ht : Tab W) (h0 : J [] W) :
    CallsIn Fence.wide 2 Tryd.prog 63 #[.func (.yield l) #[] #[], .pointer (some ⟨Bn, 0, none⟩)] W fun e W' => (∃ v, e = .returned v) ∧
      ((∃ ys, AllF s ys ∧ J ys W') ∨ (∃ pre, PartF s pre ∧ Jx pre W')) := by
  refine callsIn_of_wp Tryd.func63 rfl trivial ?_ rfl
  simp only [Tryd.ntmps63, List.size_toArray, List.length_cons, List.length_nil, Nat.reduceAdd, Nat.reduceSub, Array.replicate_succ, Array.replicate_zero, List.push_toArray, List.append_toArray, List.nil_append, List.cons_append]
  have h1 : 1 ≤ (2 : Nat) := by omega
  gi_wp2
  gi_loopw [3] (fun p wr => ∃ (pre : List Fnd) (b : Int), p = .int .i64 b ∧ FRun s pre b ∧ J pre wr ∧ Tab wr ∧ wr.cell? ⟨Bn, 0, none⟩ = some (.string s))
    (fun p wr => s.size - (intOf p).toNat)
  case atStart =>
    exact ⟨[], 0, rfl, .nil, h0, ht, hBn⟩
  case round =>
    obtain ⟨pre, b, rfl, hrun, hJs, htr, hc⟩ := hrel
    obtain ⟨hb1, hb2⟩ := hrun.bound
    by_cases hlt : b < (s.size : Int)
    · obtain ⟨⟨t, nx, e⟩, hr⟩ : ∃ r, nextR s b = r := ⟨_, rfl⟩
      have HR := Lib.hid hr; have HRUN := Lib.hid hrun; have HY := Lib.hid hY; have HJ := Lib.hid hJ
      clear hr hrun hY hJ
      have hlen : pre.length < s.size := by omega
      by_cases he : e = 0
      · subst he
        gi_wp2_with (refine ⟨trivial, ?_⟩; gi_at_call 64; refine (callsIn_wide.2 (next_any s b _ htr (by omega))).mono ?_; rintro e9 w2 ⟨rfl, hb9⟩; rw [HR.out]; unfold nextV; have hJ2 : J pre w2 := HJ.out pre wr w2 none hJs (grown_of_below hb9) (fun _ e => nomatch e); obtain ⟨fn, tmps, assign, body, hy, hR⟩ := HY.out pre (t, nx, 0) w2 hJ2 hlen; dsimp only [encF] at hy)
        refine hR.mono ?_
        rintro e8 W3 (⟨rfl, hJ3, hk3⟩ | ⟨rfl, hJx3⟩)
        · have hr : nextR s b = (t, nx, 0) := HR.out
          have hadv := next_adv s b (by rw [hr])
          rw [hr] at hadv
          obtain ⟨ha1, ha2, ha3⟩ := hadv
          have ha2' : b + 4 < nx := ha2
          have ha3' : nx ≤ (s.size : Int) := ha3
          have hrun3 : FRun s (pre ++ [(t, nx, 0)]) nx := by
            have h := FRun.snoc HRUN.out hlt (by rw [hr])
            rw [hr] at h
            exact h
          have hc2 : w2.cell? ⟨Bn, 0, none⟩ = some (.string s) := (hb9.cell (p := ⟨Bn, 0, none⟩) (World.block_lt_of_cell? wr _ hc)).trans hc
          have ht3 : Tab W3 := (htr.below hb9).since hn0 hk3.1
          have hc3 := hk3.2 hc2
          clear ha1 ha2 ha3
          gi_wp2
          go_roundw
          case rel => exact ⟨pre ++ [(t, nx, 0)], nx, rfl, hrun3, hJ3, ht3, hc3⟩
          case measure =>
            show s.size - nx.toNat < s.size - b.toNat
            omega
        · gi_wp2
          refine bodyPost_ret (results_none rfl _ _ _) rfl ?_
          refine ⟨⟨_, rfl⟩, .inr ⟨pre ++ [(t, nx, 0)], ⟨pre, b, by rw [HR.out], HRUN.out, hlt⟩, hJx3⟩⟩
      · have hne : (e != 0) = true := by simpa using he
        have HE := Lib.hid he; clear he
        gi_wp2_with (refine ⟨trivial, ?_⟩; gi_at_call 64; refine (callsIn_wide.2 (next_any s b _ htr (by omega))).mono ?_; rintro e9 w2 ⟨rfl, hb9⟩; rw [HR.out]; unfold nextV; have hJ2 : J pre w2 := HJ.out pre wr w2 none hJs (grown_of_below hb9) (fun _ e => nomatch e); obtain ⟨fn, tmps, assign, body, hy, hR⟩ := HY.out pre (t, nx, e) w2 hJ2 hlen; dsimp only [encF] at hy)
        refine hR.mono ?_
        rintro e8 W3 (⟨rfl, hJ3, hk3⟩ | ⟨rfl, hJx3⟩)
        · gi_wp2
          refine bodyPost_ret (results_none rfl _ _ _) rfl ?_
          refine ⟨⟨_, rfl⟩, .inl ⟨pre ++ [(t, nx, e)], .inr ⟨pre, b, by rw [HR.out], HRUN.out, hlt, by rw [HR.out]; exact HE.out⟩, hJ3⟩⟩
        · gi_wp2
          refine bodyPost_ret (results_none rfl _ _ _) rfl ?_
          refine ⟨⟨_, rfl⟩, .inr ⟨pre ++ [(t, nx, e)], ⟨pre, b, by rw [HR.out], HRUN.out, hlt⟩, hJx3⟩⟩
    · have hge : ¬ b < (s.size : Int) := hlt
      gi_wp2
      go_end0
      exact ⟨⟨_, rfl⟩, .inl ⟨pre, .inl ⟨b, hrun, by omega⟩, hJs⟩⟩
theorem iter_stops (Bn n₀ : Nat) (s : ByteArray) (hs : s.size ≤ 281474976710656) (w : World) (hBn : Bn < w.heap.size) (hn0 : 0 < n₀) (hc : w.cell? ⟨Bn, 0, none⟩ = some (.string s)) (ht : Tab w) :
    SeqStopsK Fence.wide 2 Tryd.prog 63 #[.pointer (some ⟨Bn, 0, none⟩)] (fun x : Fnd => #[encF x]) (KpF n₀ Bn s) (AllF s) (PartF s) s.size w := fun l J Jx W hW hJ _ hY h0 =>
  iter_in l Bn n₀ W.heap.size s hs J Jx hJ hY W hn0 ((hW.cell (p := ⟨Bn, 0, none⟩) hBn).trans hc) (ht.below hW) h0

set_option maxHeartbeats 800000 in
theorem frames_any (s : ByteArray) (w : World) :
    CallsIn Fence.wide 2 Tryd.prog 47 #[.string s] w fun e w' => e = .returned (.func (.func 63) #[] #[.pointer (some ⟨w.heap.size, 0, none⟩)]) ∧ w' = w.alloc (.cells #[.string s] 9) := by
  refine callsIn_of_wp Tryd.func47 rfl trivial ?_ rfl
  simp only [Tryd.ntmps47, List.size_toArray, List.length_cons, List.length_nil, Nat.reduceAdd, Nat.reduceSub, Array.replicate_succ, Array.replicate_zero, List.push_toArray, List.append_toArray, List.nil_append, List.cons_append]
  gi_wp2
  go_ret
  exact ⟨rfl, rfl⟩
end Go.Proofs.YtfiplhnplmadmaaDoor

/- Slices of texts that came in. Conditions: none. -/
namespace Go.Proofs.YtfiplhnplmadmaaDoor
open Go.RowKit Go.ChangeShapes Go.WideShapes

/-- One text a cell. -/
def strE (s : ByteArray) : List Value := [.string s]
end Go.Proofs.YtfiplhnplmadmaaDoor
