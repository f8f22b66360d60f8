/- Package stamp: All. Conditions: the entries read as l. -/
import Derived.Test.YthmnndbpadegnaaStmE
import Derived.Maps.AppendAt
import Derived.BigQuiet
namespace Go.Proofs.Ythmnndbpadegnaa
open Go.RowKit Go.Shelf
theorem info_note : (Try.prog.info? 93).map (fun i => (i.zero, i.size, i.bytes)) = some (some (.agg #[.int .i64 0, .int .i64 0, .int .u64 0, .int .i64 0, .slice none 0 0, .int .u64 0, .slice none 0 0, .int .i64 0, .int .i64 0, .slice none 0 0, .int .u64 0, .int .i64 0, .int .u64 0, .int .i64 0, .int .i64 0, .int .i64 0, .int .i64 0, .int .i64 0]), 18, 192) := by kernel_rfl
attribute [local go_sem] Oper.semAt_some

/-- The variable of the loop. -/
def Nl (W : World) (B : Nat) (x : Stp) : Prop := W.heap[B]? = some (.cells (noteE x).toArray 93 (0, 0))
theorem Nl.lt {W : World} {B : Nat} {x : Stp} (h : Nl W B x) : B < W.heap.size := (Array.getElem?_eq_some_iff.1 h).1
theorem Nl.kept {W W' : World} {row : Option Nat} {B : Nat} {x : Stp} (h : Nl W B x) (hg : W.grownBy W' row) (hne : some B ≠ row) : Nl W' B x := (hg.block B h.lt hne).trans h
theorem Nl.own (B : Nat) (x : Stp) : Own (fun (_ : Unit) W => Nl W B x) := fun _ X Y row hs hg hrow =>
  hs.kept hg (fun e' => by obtain ⟨o, ho, hc⟩ := hrow B e'.symm; rw [show X.heap[B]? = _ from hs] at ho; cases ho; cases hc)
theorem own_blockS {w : World} {B : Nat} {e : TypeId} {k : Nat} {v : Value} {n : Nat} {xs : List Value} (h : w.ownsRow B e k v n xs) : ∀ g, v.ownBlock = some g → B ≤ g := by
  intro g hg
  rcases h.2 with ⟨rfl, _⟩ | ⟨g', cap, cur, rfl, hg', _⟩
  · simp [Value.ownBlock] at hg
  · simp [Value.ownBlock] at hg; omega
theorem own_lowS {w : World} {B B' : Nat} {e : TypeId} {k : Nat} {v : Value} {n : Nat} {xs : List Value} (h : w.ownsRow B e k v n xs) (hb : B' ≤ B) : w.ownsRow B' e k v n xs := by
  obtain ⟨h1, h2⟩ := h
  refine ⟨h1, ?_⟩
  rcases h2 with h2 | ⟨g, cap, cur, hv, hg, r⟩
  · exact Or.inl h2
  · exact Or.inr ⟨g, cap, cur, hv, Nat.le_trans hb hg, r⟩
theorem cell_farS {W W' : World} {row : Option Nat} (hg : W.grownBy W' row) {k : Nat} (hk : some k ≠ row) {v : Value} (c : W.cell? ⟨k, 0, none⟩ = some v) : W'.cell? ⟨k, 0, none⟩ = some v :=
  (World.cell?_of_block (w := W) (hg.block k (World.block_lt_of_cell? W _ c) hk)).trans c
theorem own_sliceS {W : World} {base : Nat} {e : TypeId} {size : Nat} {v : Value} {k : Nat} {xs : List Value} (h : W.ownsRow base e size v k xs) : ∃ ao n cap, v = .slice ao n cap := by
  rcases h.2 with ⟨rfl, _⟩ | ⟨g, cap, cur, rfl, _⟩
  · exact ⟨_, _, _, rfl⟩
  · exact ⟨_, _, _, rfl⟩
/-- A whole block is loaded inside a fence. -/
theorem wpListIn_load_row {F : Fence} {n : Nat} {P : Program} {ops : Array Oper} {rest : List Oper} {o : Oper} {a : Act} {w : World} {Q : Exit → Act → World → Prop} (hgd : o.guard = none) (ty : TypeId) (x : Operand) (ho : o.op = .load ty x)
    (g : Nat) (hx : a.eval x = .pointer (some ⟨g, 0, none⟩)) (t : TypeId) (cs : Array Value) (fr : Nat × Nat) (d : TypeDesc) (hg : w.heap[g]? = some (.cells cs t fr))
    (hu : P.underlying ty = some d) (hd : (match d with | .struct _ | .array _ _ => true | _ => false) = true) (hi : (P.info? ty).map (·.size) = some cs.size)
    (h : wpListIn F n P ops Q rest (a.put o.dst (.agg cs)) w) : wpListIn F n P ops Q (o :: rest) a w := by
  refine wpListIn_plain hgd fun K hK => ?_
  unfold Oper.wpIn
  refine ⟨?_, ?_⟩
  · simp [Oper.about, ho]
  · rw [Oper.semAt_plain F _ _ (by rw [ho]; intro c hc'; cases hc')]
    simp only [execOp, ho, hx, Instr.loadAt, Instr.sureAddr, Sem.run_bind, Sem.run_pure, Result.andThen_ok, run_loadVar_row w g t ty cs fr d hg hu hd hi]
    exact hK _ _ h
/-- The append, and what it leaves. -/
theorem appendedS {W w1 : World} {N : Nat} {v v' sl : Value} {n f : Int} {k m : Nat} {xs ys : List Value} {tmp : Obj} (hB : N + 4 ≤ W.heap.size)
    (hv : Boxed W N 72 v) (hrow : W.ownsRow (N + 4) 93 18 v k xs)
    (hown' : w1.ownsRow (N + 4) 93 18 v' m ys) (hgrow : (W.alloc tmp).grownBy w1 v.ownBlock) :
    Boxed w1 N 72 v ∧ Boxed (w1.setCell ⟨N, 0, none⟩ v') N 72 v' ∧ (w1.setCell ⟨N, 0, none⟩ v').ownsRow (N + 4) 93 18 v' m ys ∧ KeepsOthers W (w1.setCell ⟨N, 0, none⟩ v') ∧ KpS N (N + 1) sl n f W (w1.setCell ⟨N, 0, none⟩ v') := by
  obtain ⟨p1, p2, p3, p4, p5⟩ := hv.appended (by decide) (own_lowS hrow (B' := N) (by omega)) (by omega) (Nat.le_refl _) (own_lowS hown' (B' := N) (by omega)) hgrow
  have far : ∀ j, 1 ≤ j → j ≤ 3 → ∀ u, W.cell? ⟨N + j, 0, none⟩ = some u → (w1.setCell ⟨N, 0, none⟩ v').cell? ⟨N + j, 0, none⟩ = some u := by
    intro j h1 h3 u c
    refine cell_farS (grownBy_setCell' w1 N v') (fun h => by have := Option.some.inj h; omega) (cell_farS hgrow (fun h => ?_) (cell_farS (World.grownBy_alloc W tmp none) (fun h => nomatch h) c))
    have := own_blockS hrow _ h.symm
    omega
  refine ⟨p1, p2, hown'.kept (grownBy_setCell' w1 N v') (.inr (p1.not_row (by decide) hown').symm), p4, p5, fun h => ⟨?_, ?_, ?_⟩⟩
  · exact far 1 (by omega) (by omega) _ h.c0
  · exact far 2 (by omega) (by omega) _ h.c1
  · exact far 3 (by omega) (by omega) _ h.c2
abbrev ISt (N : Nat) (pre : List Stp) (W : World) : Prop := ∃ v, Boxed W N 72 v ∧ W.ownsRow (N + 4) 93 18 v pre.length (pre.flatMap noteE) ∧ True

set_option maxRecDepth 100000 in
set_option maxHeartbeats 4000000 in
theorem sall_any (v : Value) (l : List EntT) (n f : Int) (w : World) (hs : SliceOf entE 4 w v l) (hl : l.length ≤ 1000) (hf : 0 ≤ f) (hf1 : f ≤ topT) (hlast : 0 ≤ lastR l ∧ lastR l ≤ topT) :
    Calls Try.prog 53 #[v, .int .i64 n, .int .u64 f] w fun e w' => ∃ u ys, e = .returned u ∧ AllS l n f ys ∧ w'.ownsRow w.heap.size 93 18 u ys.length (ys.flatMap noteE) ∧ Below w.heap.size w w' := by
  obtain ⟨i0, hi, hz0, hz1, hz2⟩ := info_parts info_note
  have HS := Lib.hid hs
  obtain ⟨ao, cap, rfl, hcap, hcm, _, _⟩ := hs
  obtain ⟨N, hN⟩ : ∃ N, N = w.heap.size := ⟨_, rfl⟩
  refine (callsIn_wide (n := 3)).1 ?_
  refine callsIn_of_wp_marks Try.func53 rfl trivial ?_ rfl
  simp only [Try.ntmps53, List.size_toArray, List.length_cons, List.length_nil, Nat.reduceAdd, Nat.reduceSub, Array.replicate_succ, Array.replicate_zero, List.push_toArray, List.append_toArray, List.nil_append, List.cons_append]
  have h1 : 1 ≤ (3 : Nat) := by omega
  rw [← hN]
  have HN := Lib.hid hN; clear hN
  gi_wp2_with (refine ⟨trivial, ?_⟩; refine (stamps_any ao l.length cap n f _).mono ?_; rintro e w' ⟨rfl, rfl⟩)
  have bL := Boxed.new w 72 (.slice none 0 0)
  have hB0 : Below w.heap.size w ((((w.alloc (.cells #[.slice none 0 0] 72)).alloc (.cells #[.slice ao l.length cap] 39)).alloc (.cells #[.int .i64 n] 3)).alloc (.cells #[.int .u64 f] 45)) := ((((Below.refl _ w).alloc (Nat.le_refl _) _).alloc (by simp) _).alloc (by simp; omega) _).alloc (by simp; omega) _
  have hsz : ((((w.alloc (.cells #[.slice none 0 0] 72)).alloc (.cells #[.slice ao l.length cap] 39)).alloc (.cells #[.int .i64 n] 3)).alloc (.cells #[.int .u64 f] 45)).heap.size = w.heap.size + 4 := by simp
  have bL := ((bL.alloc (.cells #[.slice ao l.length cap] 39)).alloc (.cells #[.int .i64 n] 3)).alloc (.cells #[.int .u64 f] 45)
  have x0 := ((Boxed.new (w.alloc (.cells #[.slice none 0 0] 72)) 39 (.slice ao l.length cap)).alloc (.cells #[.int .i64 n] 3)).alloc (.cells #[.int .u64 f] 45)
  have x1 := (Boxed.new ((w.alloc (.cells #[.slice none 0 0] 72)).alloc (.cells #[.slice ao l.length cap] 39)) 3 (.int .i64 n)).alloc (.cells #[.int .u64 f] 45)
  have x2 := Boxed.new (((w.alloc (.cells #[.slice none 0 0] 72)).alloc (.cells #[.slice ao l.length cap] 39)).alloc (.cells #[.int .i64 n] 3)) 45 (.int .u64 f)
  have hS0 := HS.out.below hB0
  simp only [World.size_alloc] at x0 x1 x2 ⊢
  rw [← HN.out] at bL x0 x1 x2 hB0 hsz ⊢
  obtain ⟨W0, hW0⟩ : ∃ W0, ((((w.alloc (.cells #[.slice none 0 0] 72)).alloc (.cells #[.slice ao l.length cap] 39)).alloc (.cells #[.int .i64 n] 3)).alloc (.cells #[.int .u64 f] 45)) = W0 := ⟨_, rfl⟩
  rw [hW0] at bL x0 x1 x2 hB0 hsz hS0 ⊢
  clear hW0
  have hNW : N ≤ W0.heap.size := by omega
  have hX : Bx3 (N + 1) (.slice ao l.length cap) n f W0 := ⟨x0.cell, x1.cell, x2.cell⟩
  refine wpIn_rangeFunc_ownH rfl h1 (gf := 114) (lb := #[.pointer (some ⟨N + 1, 0, none⟩), .pointer (some ⟨N + 1 + 1, 0, none⟩), .pointer (some ⟨N + 1 + 1 + 1, 0, none⟩)]) rfl trivial (enters_of Try.func114 (by kernel_rfl) rfl)
    (siter_stops (N + 1) N ao cap l n f hl hf hf1 hlast W0 hX hS0) KpS.t (KpS.b (by omega)) (Below.refl _ _) (fun _ => rfl)
    (fun pre W => ISt N pre W ∧ Below N w W) (fun _ _ _ => False) ?hI (fun _ _ _ _ _ hs _ _ => hs) ⟨⟨_, bL, World.ownsRow_nil _ _ _ _, trivial⟩, hB0⟩
    (fun x a' W => ∃ Bx, N < Bx ∧ Nl W Bx x ∧ a' = { tmps := #[.slice ao l.length cap, .int .i64 n, .int .u64 f, undef, undef, undef, .slice none 0 0, .pointer (some ⟨N, 0, none⟩), .pointer (some ⟨Bx, 0, none⟩), .slice ao l.length cap, .int .i64 n, .int .u64 f, .func (.func 114) #[] #[.pointer (some ⟨N + 1, 0, none⟩), .pointer (some ⟨N + 1 + 1, 0, none⟩), .pointer (some ⟨N + 1 + 1 + 1, 0, none⟩)], encN x, undef, undef, undef, undef, undef], defers := [] })
    (fun x a' _ X Y row hs hg hr => by obtain ⟨Bx, h1, h2, h3⟩ := hs; exact ⟨Bx, h1, Nl.own Bx x () X Y row h2 hg (fun r e => (hr r e).2), h3⟩)
    ?assign ?body ?done ?stop
  case hI => exact fun s' X Y row hs' hg hr => ⟨holdsRow_own (N + 4) N 72 93 18 (fun pre : List Stp => pre.length) (fun pre => pre.flatMap noteE) (fun _ _ => True) s' X Y row hs'.1 hg (fun r e => (hr r e).2), ownFrom_below (by have := HN.out; omega) hNW s' X Y row hs'.2 hg hr⟩
  case assign =>
    rintro lp pre ⟨i, ts⟩ W K ⟨⟨v, hv, hrow, -⟩, hB⟩ hK
    have HSZ := Lib.hid hsz; clear hsz
    have hlt2 := hv.lt
    dsimp only [encN, noteE]
    gi_wp2
    have hNs : N ≤ W.heap.size := by omega
    have g := World.grownBy_alloc W (.cells (noteE (i, ts)).toArray 93) none
    exact hK _ _ ((KeepsOthers.alloc _ _).from _) ⟨(Below.refl _ W).alloc hNs _, fun c => c.below ((Below.refl _ W).alloc (Nat.le_refl _) _)⟩ ⟨⟨v, hv.alloc _, hrow.alloc _, trivial⟩, hB.alloc hNs _⟩ ⟨W.heap.size, hlt2, World.alloc_heap_new W _, rfl⟩
  case body =>
    rintro lp pre ⟨i, ts⟩ a' W hlp ⟨r, hr⟩ ⟨⟨v, hv, hrow, -⟩, hB⟩ ⟨Bx, hBx, hx, rfl⟩ hlt
    have hB4 : N + 4 ≤ W.heap.size := by have := (Array.getElem?_eq_some_iff.1 hr).1; omega
    have cv := hv.cell
    have hxb : W.heap[Bx]? = some (.cells (noteE (i, ts)).toArray 93 (0, 0)) := hx
    dsimp only [encN]
    have HSZ := Lib.hid hsz; have HBB := Lib.hid hB; have HX := Lib.hid hX; have HXB := Lib.hid hxb
    clear hsz hB hxb hX hx
    gi_wp2_with (first
      | (refine wpListIn_load_row rfl 93 (.tmp 8) rfl Bx rfl 93 (noteE (i, ts)).toArray (0, 0) _ HXB.out Try.underlying93 rfl (by kernel_rfl) ?_; dsimp only [noteE])
      | (gi_at_builtin; refine wpListIn_append_own _ rfl _ _ 72 rfl (N + 4) 93 i0 (.agg #[.int .i64 0, .int .i64 0, .int .u64 0, .int .i64 0, .slice none 0 0, .int .u64 0, .slice none 0 0, .int .i64 0, .int .i64 0, .slice none 0 0, .int .u64 0, .int .i64 0, .int .u64 0, .int .i64 0, .int .i64 0, .int .i64 0, .int .i64 0, .int .i64 0]) 18 192 Try.underlying72 hi hz0 hz1 hz2 rfl (by decide) _ _ _ rfl (hrow.alloc _) ⟨W.heap.size, 0, none⟩ 1 1 (noteE (i, ts)) rfl rfl (World.news_of_block (World.alloc_heap_new _ _)) (by simp [Value.oneCell', noteE]) (by unfold maxLen; omega) (by omega) (by simp; omega) ?_; intro v' w1 hown' hgrow _; obtain ⟨g', cap', rfl⟩ := ownsRow_succ hown'; obtain ⟨p1, p2, p3, p4, p5⟩ := appendedS (sl := .slice ao l.length cap) (n := n) (f := f) hB4 hv hrow hown' hgrow; have hc1 := p1.cell; have hf1 := p1.frozen))
    refine ⟨p4.from _, p5, ⟨⟨_, p2, ?_, trivial⟩, HBB.out.trans p5.1⟩⟩
    rw [List.length_append, List.flatMap_append]
    exact p3
  case done =>
    rintro D ys W hD hS ⟨⟨v, hv, hrow, -⟩, hB⟩ hK
    have hc := hv.cell
    have HROW := Lib.hid hrow; have HB := Lib.hid hB; have HK := Lib.hid hK; have HSZ := Lib.hid hsz; have HSS := Lib.hid hS
    clear hrow hB hK hsz hS
    gi_wp2
    refine ⟨by simp, .inl ⟨_, _, rfl, run_takeDeferred HK.out, ?_⟩⟩
    exact ⟨_, results_tmp rfl _ _ _, _, ys, rfl, HSS.out, ownsRow_putObj (own_lowS HROW.out (by omega)) _ HK.out rfl, HB.out.trans (belowK_b (w := w) (by have := HN.out; omega) W D _ _ (by have := HN.out; omega) HK.out rfl rfl)⟩
  case stop =>
    rintro D c pre W _ _ h _
    exact h.elim
end Go.Proofs.Ythmnndbpadegnaa
