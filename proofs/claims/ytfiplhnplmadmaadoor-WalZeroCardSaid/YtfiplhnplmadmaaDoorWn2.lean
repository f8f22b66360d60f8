/- Put together: FrameIWm, WalAWm, RfQWm, WalBWm, WalCWm, WalDWm, WalEWm, WalFWm, WalGWm, WalHWm, WalJWm, SumLaidWm. Conditions: as each says. -/
import Derived.Test.YtfiplhnplmadmaaDoorWn1
import Derived.Maps.AppendAt
import Derived.ScopeJumps
import Derived.BigQuiet
import Derived.RangeFuncNested
import Derived.RangeFuncBound
import Derived.RangeFuncCalls
import Derived.RangeFuncLeaves
import Derived.RangeFuncBox
import Derived.Shelf.Abstract
import Derived.Shelf.RegionOpen
import Derived.WalkKit
import Derived.OwnWalkIn
import Derived.TacticsInMore
import Derived.Test.YtfiplhnplmadmaaDoorTie
import Derived.LaidMore
import Derived.Lib.LaidTab
import Derived.Stop.Joined
/- Package frame: All. Conditions: the table reads as it is laid. -/
namespace Go.Proofs.YtfiplhnplmadmaaDoor
open Go.RowKit Go.Shelf
attribute [local go_sem] Oper.semAt_some

theorem info_strI : (Tryd.prog.info? 9).map (fun i => (i.zero, i.size, i.bytes)) = some (some (.string ⟨#[]⟩), 1, 16) := by kernel_rfl
def txt (l : List Fnd) : List ByteArray := l.map fun x => x.1
def lastAt (l : List Fnd) : Int := (l.getLast?.map fun x => x.2.1).getD 0
theorem txt_snoc (l : List Fnd) (x : Fnd) : txt (l ++ [x]) = txt l ++ [x.1] := by simp [txt]
theorem lastAt_snoc (l : List Fnd) (x : Fnd) : lastAt (l ++ [x]) = x.2.1 := by simp [lastAt]
theorem txt_len (l : List Fnd) : (txt l).length = l.length := by simp [txt]
theorem FRun.last {s : ByteArray} {l : List Fnd} {b : Int} (h : FRun s l b) : lastAt l = b := by
  cases h with
  | nil => rfl
  | snoc h1 h2 h3 => rw [lastAt_snoc]
/-- The variable of the loop. -/
def Fl (W : World) (B : Nat) (x : Fnd) : Prop := W.heap[B]? = some (.cells #[.string x.1, .int .i64 x.2.1, .int .i64 x.2.2] 90 (0, 0))
theorem Fl.lt {W : World} {B : Nat} {x : Fnd} (h : Fl W B x) : B < W.heap.size := (Array.getElem?_eq_some_iff.1 h).1
theorem Fl.cell {W : World} {B : Nat} {x : Fnd} (h : Fl W B x) : W.cell? ⟨B, 0, none⟩ = some (.string x.1) ∧ W.cell? ⟨B, 1, none⟩ = some (.int .i64 x.2.1) ∧ W.cell? ⟨B, 2, none⟩ = some (.int .i64 x.2.2) := by
  refine ⟨?_, ?_, ?_⟩ <;> simp [World.cell?, show W.heap[B]? = _ from h]
theorem Fl.kept {W W' : World} {row : Option Nat} {B : Nat} {x : Fnd} (h : Fl W B x) (hg : W.grownBy W' row) (hne : some B ≠ row) : Fl W' B x := (hg.block B h.lt hne).trans h
theorem Fl.own (B : Nat) (x : Fnd) : Own (fun (_ : Unit) W => Fl W B x) := fun _ X Y row hs hg hrow =>
  hs.kept hg (fun e' => by obtain ⟨o, ho, hc⟩ := hrow B e'.symm; rw [show X.heap[B]? = _ from hs] at ho; cases ho; cases hc)
theorem Fl.not_row {W : World} {B : Nat} {x : Fnd} (h : Fl W B x) {base k : Nat} {v : Value} {xs : List Value} (hr : W.ownsRow base 9 1 v k xs) : some B ≠ v.ownBlock := by
  rcases hr.2 with ⟨rfl, _⟩ | ⟨g, cap, cur, rfl, _, hgb, _⟩
  · simp [Value.ownBlock]
  · intro e'
    obtain rfl : B = g := by simpa [Value.ownBlock] using e'
    have := (show W.heap[B]? = _ from h).symm.trans hgb
    simp at this
theorem own_slice {W : World} {base : Nat} {e : TypeId} {size : Nat} {v : Value} {k : Nat} {xs : List Value} (h : W.ownsRow base e size v k xs) : ∃ ao n cap, v = .slice ao n cap := by
  rcases h.2 with ⟨rfl, _⟩ | ⟨g, cap, cur, rfl, _⟩
  · exact ⟨_, _, _, rfl⟩
  · exact ⟨_, _, _, rfl⟩
/-- What All tells. -/
def AllR (s : ByteArray) (l : List ByteArray) (b e : Int) : Prop := Run s 0 l b ∧ Ends s b e
abbrev IAll (N : Nat) (pre : List Fnd) (W : World) (e : Int) : Prop :=
  ((∃ v, Boxed W N 28 v ∧ W.ownsRow (N + 4) 9 1 v (txt pre).length ((txt pre).flatMap strE) ∧ True) ∧ Boxed W (N + 1) 3 (.int .i64 (lastAt pre))) ∧ Boxed W (N + 2) 29 (.int .i64 e)

theorem IAll.own (N : Nat) (e : Int) : Own (fun (pre : List Fnd) W => IAll N pre W e) := fun s X Y row hs hg hr =>
  ⟨⟨holdsRow_own (N + 4) N 28 9 1 (fun pre => (txt pre).length) (fun pre => (txt pre).flatMap strE) (fun _ _ => True) s X Y row hs.1.1 hg hr,
    boxed_own (N + 1) 3 (fun pre => .int .i64 (lastAt pre)) s X Y row hs.1.2 hg hr⟩, boxed_own (N + 2) 29 (fun _ => .int .i64 e) s X Y row hs.2 hg hr⟩
theorem IAll.alloc {N : Nat} {pre : List Fnd} {W : World} {e : Int} (h : IAll N pre W e) (o : Obj) : IAll N pre (W.alloc o) e :=
  IAll.own N e pre W (W.alloc o) none h (World.grownBy_alloc W o none) (fun _ e => nomatch e)
theorem own_blockI {w : World} {B : Nat} {e : TypeId} {k : Nat} {v : Value} {n : Nat} {xs : List Value} (h : w.ownsRow B e k v n xs) : ∀ g, v.ownBlock = some g → B ≤ g := by
  intro g hg
  rcases h.2 with ⟨rfl, _⟩ | ⟨g', cap, cur, rfl, hg', _⟩
  · simp [Value.ownBlock] at hg
  · simp [Value.ownBlock] at hg; omega
theorem own_lowI {w : World} {B B' : Nat} {e : TypeId} {k : Nat} {v : Value} {n : Nat} {xs : List Value} (h : w.ownsRow B e k v n xs) (hb : B' ≤ B) : w.ownsRow B' e k v n xs := by
  obtain ⟨h1, h2⟩ := h
  refine ⟨h1, ?_⟩
  rcases h2 with h2 | ⟨g, cap, cur, hv, hg, r⟩
  · exact Or.inl h2
  · exact Or.inr ⟨g, cap, cur, hv, Nat.le_trans hb hg, r⟩
theorem cell_far {W W' : World} {row : Option Nat} (hg : W.grownBy W' row) {k : Nat} (hk : some k ≠ row) {v : Value} (c : W.cell? ⟨k, 0, none⟩ = some v) : W'.cell? ⟨k, 0, none⟩ = some v :=
  (World.cell?_of_block (w := W) (hg.block k (World.block_lt_of_cell? W _ c) hk)).trans c
/-- The append, and what it leaves. -/
theorem appended {W w1 : World} {N Bx : Nat} {s : ByteArray} {pre : List Fnd} {v v' : Value} {x : Fnd} {e : Int} {m : Nat} {ys : List Value} {tmp : Obj} (hB : N + 4 ≤ W.heap.size)
    (hv : Boxed W N 28 v) (hrow : W.ownsRow (N + 4) 9 1 v (txt pre).length ((txt pre).flatMap strE)) (b1 : Boxed W (N + 1) 3 (.int .i64 (lastAt pre))) (b2 : Boxed W (N + 2) 29 (.int .i64 e)) (hx : Fl W Bx x) (hBx : N + 2 < Bx)
    (hown' : w1.ownsRow (N + 4) 9 1 v' m ys) (hgrow : (W.alloc tmp).grownBy w1 v.ownBlock) :
    (Boxed w1 N 28 v ∧ Boxed (w1.setCell ⟨N, 0, none⟩ v') N 28 v' ∧ (w1.setCell ⟨N, 0, none⟩ v').ownsRow (N + 4) 9 1 v' m ys ∧ KeepsOthers W (w1.setCell ⟨N, 0, none⟩ v') ∧ Below N W (w1.setCell ⟨N, 0, none⟩ v')) ∧
    Boxed (w1.setCell ⟨N, 0, none⟩ v') (N + 1) 3 (.int .i64 (lastAt pre)) ∧ Boxed (w1.setCell ⟨N, 0, none⟩ v') (N + 2) 29 (.int .i64 e) ∧ Fl (w1.setCell ⟨N, 0, none⟩ v') Bx x ∧
    (W.cell? ⟨N + 3, 0, none⟩ = some (.string s) → (w1.setCell ⟨N, 0, none⟩ v').cell? ⟨N + 3, 0, none⟩ = some (.string s)) := by
  obtain ⟨p1, p2, p3, p4, p5⟩ := hv.appended (by decide) (own_lowI hrow (B' := N) (by omega)) (by omega) (Nat.le_refl _) (own_lowI hown' (B' := N) (by omega)) hgrow
  refine ⟨⟨p1, p2, hown'.kept (grownBy_setCell' w1 N v') (.inr (p1.not_row (by decide) hown').symm), p4, p5⟩, ?_, ?_, ?_, ?_⟩
  · exact ((b1.alloc tmp).kept hgrow (b1.not_row (by decide) hrow)).other (by omega) v'
  · exact ((b2.alloc tmp).kept hgrow (b2.not_row (by decide) hrow)).other (by omega) v'
  · exact ((hx.kept (World.grownBy_alloc W tmp none) (fun h => nomatch h)).kept hgrow (hx.not_row hrow)).kept (grownBy_setCell' w1 N v') (fun h => by cases h; omega)
  · intro c
    refine cell_far (grownBy_setCell' w1 N v') (fun h => by cases h) (cell_far hgrow (fun h => ?_) (cell_far (World.grownBy_alloc W tmp none) (fun h => nomatch h) c))
    have := own_blockI hrow _ h.symm
    omega

set_option maxRecDepth 100000 in
set_option maxHeartbeats 4000000 in
theorem all_any (s : ByteArray) (w : World) (ht : Tab w) (hs : s.size ≤ 8796093022207) :
    Calls Tryd.prog 31 #[.string s] w fun e w' => ∃ v l b c, e = .returned (.tuple #[v, .int .i64 b, .int .i64 c]) ∧ AllR s l b c ∧ w'.ownsRow w.heap.size 9 1 v l.length (l.flatMap strE) ∧ Below w.heap.size w w' := by
  obtain ⟨i0, hi, hz0, hz1, hz2⟩ := info_parts info_strI
  obtain ⟨N, hN⟩ : ∃ N, N = w.heap.size := ⟨_, rfl⟩
  have hN0 : 0 < N := by rw [hN]; exact tab_pos ht
  refine (callsIn_wide (n := 3)).1 ?_
  refine callsIn_of_wp_marks Tryd.func31 rfl trivial ?_ rfl
  simp only [Tryd.ntmps31, List.size_toArray, List.length_cons, List.length_nil, Nat.reduceAdd, Nat.reduceSub, Array.replicate_succ, Array.replicate_zero, List.push_toArray, List.append_toArray, List.nil_append, List.cons_append]
  have h1 : 1 ≤ (3 : Nat) := by omega
  have hN0' : 0 < N := hN0
  rw [← hN]
  have HN := Lib.hid hN; clear hN
  gi_wp2
  refine wpIn_wide.2 ?_
  refine wp_scope_jumps 0 (fun a' w' => ∃ (D : Nat) (v : Value) (l : List ByteArray) (b c : Int), a' = { tmps := #[.string s, undef, .slice none 0 0, .int .i64 0, .int .i64 0, .pointer (some ⟨N, 0, none⟩), .pointer (some ⟨N + 1, 0, none⟩), .pointer (some ⟨N + 1 + 1, 0, none⟩), undef, .string s, .func (.func 63) #[] #[.pointer (some ⟨N + 1 + 1 + 1, 0, none⟩)], undef, undef, undef, undef, undef, undef, undef, undef, undef, undef, undef, undef, undef, undef, undef, undef], defers := [{ target := .collected D, args := #[] }] } ∧
      N < D ∧ w'.heap[D]? = some (.deferred (some [])) ∧ AllR s l b c ∧ Boxed w' N 28 v ∧ w'.ownsRow (N + 4) 9 1 v l.length (l.flatMap strE) ∧ Boxed w' (N + 1) 3 (.int .i64 b) ∧ Boxed w' (N + 1 + 1) 29 (.int .i64 c) ∧ Below N w w') (fun _ _ => 0) rfl ?first ?pass
  case pass =>
    rintro a' w' ⟨D, v, l, b, c, rfl, hD, hK, hR, hv, hrow, hb, hc, hB⟩
    obtain ⟨ao, n, cap, rfl⟩ := own_slice hrow
    have c0 := hv.cell; have c1 := hb.cell; have c2 := hc.cell
    have HR := Lib.hid hR; have HROW := Lib.hid hrow; have HB := Lib.hid hB; have HK := Lib.hid hK
    clear hR hrow hB hK
    go_wp2
    go_quiet (fail)
    go_wp2
    refine ⟨by simp, .inl ⟨_, _, rfl, run_takeDeferred (w := w'.drewN nq) HK.out, ?_⟩⟩
    exact ⟨_, results_tmp3 rfl _ _ _, _, l, b, c, rfl, HR.out, ownsRow_putObj (W := w'.drewN nq) (own_lowI HROW.out (by omega)) _ HK.out rfl, (below_draws HB.out nq).trans (belowK_b (w := w) (by have := HN.out; omega) (w'.drewN nq) D _ _ (by have := HN.out; omega) HK.out rfl rfl)⟩
  case first =>
    refine (wpIn_wide (n := 3)).1 ?_
    gi_wp2_with (refine ⟨trivial, ?_⟩; refine (frames_any s _).mono ?_; rintro e w' ⟨rfl, rfl⟩)
    have bL := ((Boxed.new w 28 (.slice none 0 0)).alloc (.cells #[.int .i64 0] 3)).alloc (.cells #[.int .i64 0] 29)
    have bA := (Boxed.new (w.alloc (.cells #[.slice none 0 0] 28)) 3 (.int .i64 0)).alloc (.cells #[.int .i64 0] 29)
    have bE := Boxed.new ((w.alloc (.cells #[.slice none 0 0] 28)).alloc (.cells #[.int .i64 0] 3)) 29 (.int .i64 0)
    have bL := bL.alloc (.cells #[.string s] 9)
    have bA := bA.alloc (.cells #[.string s] 9)
    have bE := bE.alloc (.cells #[.string s] 9)
    have bS := Boxed.new (((w.alloc (.cells #[.slice none 0 0] 28)).alloc (.cells #[.int .i64 0] 3)).alloc (.cells #[.int .i64 0] 29)) 9 (.string s)
    have hB0 : Below w.heap.size w ((((w.alloc (.cells #[.slice none 0 0] 28)).alloc (.cells #[.int .i64 0] 3)).alloc (.cells #[.int .i64 0] 29)).alloc (.cells #[.string s] 9)) := ((((Below.refl _ w).alloc (Nat.le_refl _) _).alloc (by simp) _).alloc (by simp; omega) _).alloc (by simp; omega) _
    have hsz : ((((w.alloc (.cells #[.slice none 0 0] 28)).alloc (.cells #[.int .i64 0] 3)).alloc (.cells #[.int .i64 0] 29)).alloc (.cells #[.string s] 9)).heap.size = w.heap.size + 4 := by simp
    have hT0 := ht.below hB0
    simp only [World.size_alloc] at bA bE bS ⊢
    rw [← HN.out] at bL bA bE bS hB0 hsz ⊢
    obtain ⟨W0, hW0⟩ : ∃ W0, ((((w.alloc (.cells #[.slice none 0 0] 28)).alloc (.cells #[.int .i64 0] 3)).alloc (.cells #[.int .i64 0] 29)).alloc (.cells #[.string s] 9)) = W0 := ⟨_, rfl⟩
    rw [hW0] at bL bA bE bS hB0 hsz hT0 ⊢
    clear hW0
    have hNW : N ≤ W0.heap.size := by omega
    refine wpIn_rangeFunc_ownH rfl h1 (gf := 63) (lb := #[.pointer (some ⟨N + 1 + 1 + 1, 0, none⟩)]) rfl trivial (enters_of Tryd.func63 (by kernel_rfl) rfl)
      (iter_stops (N + 1 + 1 + 1) N s (by omega) W0 (by omega) hN0 bS.cell hT0) KpF.t (KpF.b (by omega)) (Below.refl _ _) (fun _ => rfl)
      (fun pre W => (IAll N pre W 0 ∧ (∀ x ∈ pre, x.2.2 = 0)) ∧ Below N w W)
      (fun c pre W => (∃ pre' x, c = .goto 0 ∧ pre = pre' ++ [x] ∧ IAll N pre' W x.2.2 ∧ (∀ y ∈ pre', y.2.2 = 0) ∧ x.2.2 ≠ 0) ∧ Below N w W)
      ?hI ?hIx ?h0
      (fun x a' W => ∃ Bx, N + 2 < Bx ∧ Fl W Bx x ∧ a' = { tmps := #[.string s, undef, .slice none 0 0, .int .i64 0, .int .i64 0, .pointer (some ⟨N, 0, none⟩), .pointer (some ⟨N + 1, 0, none⟩), .pointer (some ⟨N + 1 + 1, 0, none⟩), .pointer (some ⟨Bx, 0, none⟩), .string s, .func (.func 63) #[] #[.pointer (some ⟨N + 1 + 1 + 1, 0, none⟩)], encF x, undef, undef, undef, undef, undef, undef, undef, undef, undef, undef, undef, undef, undef, undef, undef], defers := [] })
      (fun x a' _ X Y row hs hg hr => by obtain ⟨Bx, h1, h2, h3⟩ := hs; exact ⟨Bx, h1, Fl.own Bx x () X Y row h2 hg (fun r e => (hr r e).2), h3⟩)
      ?assign ?body ?done ?stop
    case hI => exact fun s' X Y row hs' hg hr => ⟨⟨IAll.own N 0 s' X Y row hs'.1.1 hg (fun r e => (hr r e).2), hs'.1.2⟩, ownFrom_below (by have := HN.out; omega) hNW s' X Y row hs'.2 hg hr⟩
    case hIx =>
      rintro c s' X Y row ⟨⟨pre', x, h1, h2, h3, h4⟩, h5⟩ hg hr
      exact ⟨⟨pre', x, h1, h2, IAll.own N x.2.2 pre' X Y row h3 hg (fun r e => (hr r e).2), h4⟩, ownFrom_below (by have := HN.out; omega) hNW s' X Y row h5 hg hr⟩
    case h0 => exact ⟨⟨⟨⟨⟨_, bL, World.ownsRow_nil _ _ _ _, trivial⟩, bA⟩, bE⟩, by simp⟩, hB0⟩
    case assign =>
      rintro l pre ⟨t, nx, e⟩ W K ⟨⟨hIA, hg⟩, hB⟩ hK
      have HG := Lib.hid hg; have HSZ := Lib.hid hsz; clear hg hsz
      have hlt2 : N + 2 < W.heap.size := hIA.2.lt
      dsimp only [encF]
      gi_wp2
      exact hK _ _ ((KeepsOthers.alloc _ _).from _) ⟨(Below.refl _ W).alloc (by omega) _, fun c => cell_far (World.grownBy_alloc W _ none) (fun h => nomatch h) c⟩ ⟨⟨hIA.alloc _, HG.out⟩, hB.alloc (by omega) _⟩ ⟨W.heap.size, hlt2, World.alloc_heap_new W _, rfl⟩
    case body =>
      rintro l pre ⟨t, nx, e⟩ a' W hl ⟨r, hr⟩ ⟨⟨⟨⟨⟨v, hv, hrow, -⟩, b1⟩, b2⟩, hg⟩, hB⟩ ⟨Bx, hBx, hx, rfl⟩ hlt
      obtain ⟨x0, x1, x2⟩ := hx.cell
      dsimp only at x0 x1 x2
      dsimp only [encF]
      have hBl := hx.lt
      have hB4 : N + 4 ≤ W.heap.size := by omega
      have hlt' : (txt pre).length < s.size := by rw [txt_len]; exact hlt
      have cv := hv.cell; have c1 := b1.cell; have f1 := b1.frozen; have c2 := b2.cell; have f2 := b2.frozen
      have HG := Lib.hid hg; have HSZ := Lib.hid hsz; have HBB := Lib.hid hB
      clear hg hsz hB
      by_cases he : e = 0
      · subst he
        gi_wp2_with (gi_at_builtin; refine wpListIn_append_own _ rfl _ _ 28 rfl (N + 4) 9 i0 (.string ⟨#[]⟩) 1 16 Tryd.underlying28 hi hz0 hz1 hz2 rfl (by decide) _ _ _ rfl (hrow.alloc _) ⟨W.heap.size, 0, none⟩ 1 1 [.string t] rfl rfl (cell_one_new _ _ _) (by simp [Value.oneCell']) (by unfold maxLen; omega) (by omega) (by simp; omega) ?_; intro v' w1 hown' hgrow _; obtain ⟨g', cap', rfl⟩ := ownsRow_succ hown'; obtain ⟨⟨p1, p2, p3, p4, p5⟩, q1, q2, q3, q4⟩ := appended (s := s) hB4 hv hrow b1 b2 hx hBx hown' hgrow; have hc1 := p1.cell; have hf1 := p1.frozen; have hc2 := q1.cell; have hf2 := q1.frozen; have hx1 := q3.cell.2.1; dsimp only at hx1)
        have g3 := grownBy_setCell' (w1.setCell ⟨N, 0, none⟩ (.slice (some ⟨g', 0, none⟩) ((txt pre).length + 1) cap')) (N + 1) (.int .i64 nx)
        have hb3 := p5.setCell (p := ⟨N + 1, 0, none⟩) (Nat.le_succ N) (.int .i64 nx)
        refine ⟨(p4.trans (KeepsOthers.setCell _ _ _)).from _, ⟨hb3, fun c => cell_far g3 (fun h => by cases h) (q4 c)⟩, ⟨⟨⟨⟨_, p2.other (by omega) _, ?_, trivial⟩, ?_⟩, q2.other (by omega) _⟩, ?_⟩, HBB.out.trans hb3⟩
        · rw [txt_snoc, List.length_append, List.flatMap_append]
          exact p3.kept g3 (.inr (q1.not_row (by decide) p3).symm)
        · rw [lastAt_snoc]; exact q1.set _
        · intro y hy
          rcases List.mem_append.1 hy with hy | hy
          · exact HG.out y hy
          · simp only [List.mem_singleton] at hy; subst hy; rfl
      · have hne : (e != 0) = true := by simpa using he
        have HE := Lib.hid he; clear he
        gi_wp2
        refine wpIn_goto ?_
        have g3 := grownBy_setCell' W (N + 2) (.int .i64 e)
        have hb3 := (Below.refl N W).setCell (p := ⟨N + 2, 0, none⟩) (by simp) (.int .i64 e)
        exact ⟨(KeepsOthers.setCell _ _ _).from _, ⟨pre, (t, nx, e), rfl, rfl, ⟨⟨⟨v, hv.other (by omega) _, hrow.kept g3 (.inr (b2.not_row (by decide) hrow).symm), trivial⟩, b1.other (by omega) _⟩, b2.set _⟩, HG.out, HE.out⟩, HBB.out.trans hb3⟩
    case done =>
      rintro D ys W hD hS ⟨⟨⟨⟨⟨v, hv, hrow, -⟩, b1⟩, b2⟩, hg⟩, hB⟩ hK
      have hR : AllR s (txt ys) (lastAt ys) 0 := by
        rcases hS with ⟨b, hrun, hge⟩ | ⟨ys', b, rfl, hrun, hlt, hne⟩
        · rw [hrun.last]; exact ⟨hrun.run, .inl ⟨hge, rfl⟩⟩
        · exact absurd (hg (nextR s b) (by simp)) hne
      have hDN : N < D := by omega
      obtain ⟨ao, n, cap, rfl⟩ := own_slice hrow
      have c0 := hv.cell; have c1 := b1.cell; have c2 := b2.cell
      have HR := Lib.hid hR; have HROW := Lib.hid hrow; have HB := Lib.hid hB; have HK := Lib.hid hK; have HSZ := Lib.hid hsz
      clear hR hrow hB hK hS hg hsz
      gi_wp2
      refine wpIn_label ?_
      gi_wp2
      refine wpIn_wide.2 ?_
      go_quiet (fail)
      gi_wp2
      refine ⟨by simp, .inl ⟨_, _, rfl, run_takeDeferred (w := W.drewN nq) HK.out, ?_⟩⟩
      exact ⟨_, results_tmp3 rfl _ _ _, _, txt ys, lastAt ys, 0, rfl, HR.out, ownsRow_putObj (W := W.drewN nq) (own_lowI HROW.out (by omega)) _ HK.out rfl, (below_draws HB.out nq).trans (belowK_b (w := w) (by have := HN.out; omega) (W.drewN nq) D _ _ (by have := HN.out; omega) HK.out rfl rfl)⟩
    case stop =>
      rintro D c pre W hD ⟨ys', b, rfl, hrun, hlt⟩ ⟨⟨pre', x, rfl, h2, ⟨⟨⟨v, hv, hrow, -⟩, b1⟩, b2⟩, hg, hne⟩, hB⟩ hK
      obtain ⟨rfl, h3⟩ := List.append_inj' h2 rfl
      obtain rfl : nextR s b = x := by simpa using h3
      refine wpIn_goto ?_
      exact ⟨rfl, D, v, txt ys', lastAt ys', _, rfl, by omega, hK, ⟨by rw [hrun.last]; exact hrun.run, by rw [hrun.last]; exact .inr ⟨hlt, rfl, hne⟩⟩, hv, hrow, b1, b2, hB⟩
end Go.Proofs.YtfiplhnplmadmaaDoor

/- Package wal, pure: a log's segments on a disk; what an append and a crash make of them. Conditions: none. -/
namespace Go.Proofs.YtfiplhnplmadmaaDoor
open Go.RowKit Go.PlainAid
set_option linter.unusedVariables false

/-- A segment: its texts, and what is torn behind them. -/
structure WSeg where
  T : List ByteArray
  q : ByteArray
def WSeg.b (y : WSeg) : ByteArray := catF y.T ++ y.q
def SegOk (y : WSeg) : Prop := (∀ x ∈ y.T, x.size ≤ 65536) ∧ ∃ x : ByteArray, x.size ≤ 65536 ∧ y.q.data.toList <+: (frameB x).data.toList ∧ y.q.size < (frameB x).size
theorem bsz_app (a b : ByteArray) : (a ++ b).size = a.size + b.size := by rw [← list_len, app_list, List.length_append, list_len, list_len]
theorem frameB_pos (x : ByteArray) : 4 < (frameB x).size := by
  have h := frameB_size x
  have h2 : 0 < (putL (x.size : Int)).length := by
    rcases hl : putL (x.size : Int) with _ | ⟨a, r⟩
    · exfalso; revert hl; unfold putL; split <;> simp
    · simp
  omega
theorem seg_all {y : WSeg} (h : SegOk y) : AllR y.b y.T ((catF y.T).size : Int) (if y.q.size = 0 then 0 else 2) := by
  obtain ⟨h1, x, h2, h3, h4⟩ := h
  have hsz : y.b.size = (catF y.T).size + y.q.size := bsz_app _ _
  have hpre : y.b.data.toList <+: (catF (y.T ++ [x])).data.toList := by
    rw [catF_snoc]; unfold WSeg.b; rw [app_list, app_list]
    exact (List.prefix_append_right_inj _).2 h3
  have ht : (y.T ++ [x]).take y.T.length = y.T := by simp
  have ht2 : (y.T ++ [x]).take (y.T.length + 1) = y.T ++ [x] := List.take_of_length_le (by simp)
  have h := all_cut (y.T ++ [x]) (by intro z hz; rcases List.mem_append.1 hz with hz | hz; exact h1 z hz; simp at hz; subst hz; exact h2) y.b hpre y.T.length (by simp) (by rw [ht]; omega) (.inr (by rw [ht2, catF_snoc, bsz_app]; omega))
  rw [ht] at h
  refine ⟨h.1, ?_⟩
  have e : (if (catF y.T).size = y.b.size then (0 : Int) else 2) = if y.q.size = 0 then 0 else 2 := by
    by_cases hq : y.q.size = 0
    · rw [if_pos hq, if_pos (by omega)]
    · rw [if_neg hq, if_neg (by omega)]
  rw [← e]; exact h.2
def fullS (y : WSeg) : Bool := decide (256 ≤ y.b.size) || decide (y.q.size ≠ 0)
def txtA (A : List WSeg) : List ByteArray := A.flatMap (·.T)
/-- The place, in the list, at which one writes on. -/
def atA (A : List WSeg) : Nat := match A.getLast? with
  | some y => if fullS y = true then A.length else A.length - 1
  | none => 0
/-- x is written behind the rest of it: whole, or (q) its beginning. -/
def putA (A : List WSeg) (f : WSeg → WSeg) : List WSeg := if atA A < A.length then A.set (atA A) (f (A.getD (atA A) ⟨[], ⟨#[]⟩⟩)) else A ++ [f ⟨[], ⟨#[]⟩⟩]
def appS (x : ByteArray) (y : WSeg) : WSeg := ⟨y.T ++ [x], ⟨#[]⟩⟩
def appA (A : List WSeg) (x : ByteArray) : List WSeg := putA A (appS x)
theorem bempty {q : ByteArray} (h : q.size = 0) : q = ⟨#[]⟩ := by apply bytes_eq; apply List.length_eq_zero_iff.1; rw [list_len]; exact h
theorem at_lt {A : List WSeg} (h : atA A < A.length) : ∃ y, A[atA A]? = some y ∧ atA A + 1 = A.length ∧ y.q = ⟨#[]⟩ ∧ y.b.size < 256 := by
  unfold atA at h ⊢
  cases hl : A.getLast? with
  | none => rw [List.getLast?_eq_none_iff] at hl; subst hl; simp at h
  | some y =>
    rw [hl] at h
    dsimp only at h ⊢
    by_cases hf : fullS y = true
    · rw [if_pos hf] at h; omega
    · have hne : A ≠ [] := by intro e; subst e; simp at hl
      have h0 : 0 < A.length := List.length_pos_iff.2 hne
      have e1 : (if fullS y = true then A.length else A.length - 1) = A.length - 1 := if_neg hf
      rw [e1]
      refine ⟨y, ?_, by omega, ?_, ?_⟩
      · rw [List.getLast?_eq_getElem?] at hl; exact hl
      · exact bempty (by unfold fullS at hf; rw [Bool.or_eq_true, decide_eq_true_iff, decide_eq_true_iff] at hf; omega)
      · unfold fullS at hf; rw [Bool.or_eq_true, decide_eq_true_iff, decide_eq_true_iff] at hf; omega
theorem at_le (A : List WSeg) : atA A ≤ A.length := by unfold atA; split <;> (try split) <;> omega
theorem putA_get (A : List WSeg) (f : WSeg → WSeg) (k : Nat) : (putA A f)[k]? = if k = atA A then some (f ((A[atA A]?).getD ⟨[], ⟨#[]⟩⟩)) else A[k]? := by
  unfold putA
  have hle := at_le A
  by_cases h : atA A < A.length
  · rw [if_pos h, List.getElem?_set]
    by_cases hk : k = atA A
    · subst hk; rw [if_pos rfl, if_pos h, if_pos rfl, List.getD_eq_getElem?_getD]
    · rw [if_neg (fun e => hk e.symm), if_neg hk]
  · rw [if_neg h]
    have e : atA A = A.length := by omega
    rw [e]
    by_cases hk : k = A.length
    · subst hk; rw [if_pos rfl, List.getElem?_append_right (Nat.le_refl _)]; simp
    · rw [if_neg hk]
      by_cases hlt : k < A.length
      · rw [List.getElem?_append_left hlt]
      · rw [List.getElem?_eq_none (by simp; omega), List.getElem?_eq_none (by omega)]
theorem putA_len (A : List WSeg) (f : WSeg → WSeg) : (putA A f).length = if atA A < A.length then A.length else A.length + 1 := by
  unfold putA; split <;> simp
theorem putA_mem {A : List WSeg} {f : WSeg → WSeg} {z : WSeg} (h : z ∈ putA A f) : z ∈ A ∨ z = f ((A[atA A]?).getD ⟨[], ⟨#[]⟩⟩) := by
  obtain ⟨k, hk⟩ := List.getElem?_of_mem h
  rw [putA_get] at hk
  split at hk
  · cases hk; exact .inr rfl
  · exact .inl (List.mem_of_getElem? hk)
theorem at_none {A : List WSeg} (h : ¬ atA A < A.length) : (A[atA A]?).getD ⟨[], ⟨#[]⟩⟩ = ⟨[], ⟨#[]⟩⟩ := by rw [List.getElem?_eq_none (by omega)]; rfl
theorem at_seg (A : List WSeg) : ∃ y, (A[atA A]?).getD ⟨[], ⟨#[]⟩⟩ = y ∧ y.q = ⟨#[]⟩ ∧ ((A[atA A]? = some y ∧ atA A + 1 = A.length) ∨ (y = ⟨[], ⟨#[]⟩⟩ ∧ atA A = A.length)) := by
  by_cases h : atA A < A.length
  · obtain ⟨y, h1, h2, h3, -⟩ := at_lt h
    exact ⟨y, by rw [h1]; rfl, h3, .inl ⟨h1, h2⟩⟩
  · exact ⟨_, at_none h, rfl, .inr ⟨rfl, by have := at_le A; omega⟩⟩
def OkA (A : List WSeg) : Prop := ∀ y ∈ A, SegOk y
theorem bapp_nil (a : ByteArray) : a ++ (⟨#[]⟩ : ByteArray) = a := by apply bytes_eq; rw [app_list]; simp
theorem segOk_whole {T : List ByteArray} (h : ∀ x ∈ T, x.size ≤ 65536) : SegOk ⟨T, ⟨#[]⟩⟩ := ⟨h, ⟨#[]⟩, by decide, List.nil_prefix, by have := frameB_pos ⟨#[]⟩; show 0 < _; omega⟩
theorem OkA.at {A : List WSeg} (h : OkA A) : ∀ x ∈ ((A[atA A]?).getD ⟨[], ⟨#[]⟩⟩).T, x.size ≤ 65536 := by
  cases hA : A[atA A]? with
  | none => intro x hx; simp at hx
  | some y => exact (h y (List.mem_of_getElem? hA)).1
theorem OkA.app {A : List WSeg} (h : OkA A) {x : ByteArray} (hx : x.size ≤ 65536) : OkA (appA A x) := fun z hz => by
  rcases putA_mem hz with h1 | rfl
  · exact h z h1
  · exact segOk_whole fun t ht => by
      rcases List.mem_append.1 ht with h2 | h2
      · exact h.at t h2
      · simp at h2; subst h2; exact hx
theorem txt_put {A : List WSeg} {f : WSeg → WSeg} {m : List ByteArray} (hf : ∀ y, (f y).T = y.T ++ m) : txtA (putA A f) = txtA A ++ m := by
  unfold txtA putA
  by_cases h : atA A < A.length
  · obtain ⟨y, h1, h2, -, -⟩ := at_lt h
    rw [if_pos h]
    obtain ⟨hi, e⟩ := List.getElem?_eq_some_iff.1 h1
    have e1 : A = A.take (atA A) ++ [y] := by
      have := List.take_append_drop (atA A) A
      rw [List.drop_eq_getElem_cons hi, e, List.drop_eq_nil_of_le (by omega)] at this
      exact this.symm
    have hl : (A.take (atA A)).length = atA A := by rw [List.length_take]; omega
    have e2 : A.set (atA A) (f (A.getD (atA A) ⟨[], ⟨#[]⟩⟩)) = A.take (atA A) ++ [f y] := by
      rw [List.getD_eq_getElem?_getD, h1]
      show A.set (atA A) (f y) = _
      rw [List.set_eq_take_append_cons_drop, if_pos hi, List.drop_eq_nil_of_le (by omega)]
    rw [e2]
    generalize hg : A.take (atA A) = B at e1
    rw [e1]
    simp [hf, List.append_assoc]
  · rw [if_neg h]; simp [hf]
theorem txt_app (A : List WSeg) (x : ByteArray) : txtA (appA A x) = txtA A ++ [x] := txt_put fun y => rfl
theorem txt_run (xs : List ByteArray) (A : List WSeg) : txtA (xs.foldl appA A) = txtA A ++ xs := by
  induction xs generalizing A with
  | nil => simp
  | cons x xs ih => rw [List.foldl_cons, ih, txt_app, List.append_assoc]; rfl
theorem OkA.run {A : List WSeg} (h : OkA A) {xs : List ByteArray} (hx : ∀ x ∈ xs, x.size ≤ 65536) : OkA (xs.foldl appA A) := by
  induction xs generalizing A with
  | nil => exact h
  | cons x xs ih => exact ih (h.app (hx x (List.mem_cons_self ..))) (fun z hz => hx z (List.mem_cons_of_mem _ hz))
/-- The bytes of the k-th. -/
def bytA (A : List WSeg) (k : Nat) : List UInt8 := ((A[k]?).map fun y => y.b.data.toList).getD []
theorem byt_app (A : List WSeg) (x : ByteArray) (k : Nat) : bytA (appA A x) k = if k = atA A then bytA A k ++ (frameB x).data.toList else bytA A k := by
  unfold bytA appA
  rw [putA_get]
  by_cases hk : k = atA A
  · subst hk
    rw [if_pos rfl, if_pos rfl]
    obtain ⟨y, h1, h2, h3⟩ := at_seg A
    rw [h1]
    show (appS x y).b.data.toList = _
    unfold appS WSeg.b
    rw [bapp_nil, catF_snoc, app_list]
    rcases h3 with ⟨h3, -⟩ | ⟨h3, h4⟩
    · rw [h3]; show _ = y.b.data.toList ++ _; unfold WSeg.b; rw [h2, bapp_nil]
    · rw [List.getElem?_eq_none (by omega), h3]; rfl
  · rw [if_neg hk, if_neg hk]
theorem some_put (A : List WSeg) (f : WSeg → WSeg) (k : Nat) : ((putA A f)[k]?).isSome = (decide (k = atA A) || (A[k]?).isSome) := by
  rw [putA_get]; by_cases hk : k = atA A <;> simp [hk]
/-- A disk's files: the k-th has the bytes of A's, is safe as far as C's bytes go, and stays if C has it. -/
def flW (first : Int) (A C : List WSeg) (k : Int) : Option FileM := if first ≤ k then (if (A[(k - first).toNat]?).isSome = true then some (bytA A (k - first).toNat, ((bytA C (k - first).toNat).length : Int), (C[(k - first).toNat]?).isSome) else none) else none
/-- A disk that has just such files. -/
def OnD (fm : Int → Option FileM) (first : Int) (A C : List WSeg) : Prop := ∀ k, fm k = flW first A C k
theorem OnD.get {fm : Int → Option FileM} {first : Int} {A C : List WSeg} (h : OnD fm first A C) (i : Nat) : fm (first + (i : Int)) = if (A[i]?).isSome = true then some (bytA A i, ((bytA C i).length : Int), (C[i]?).isSome) else none := by
  rw [h, flW, if_pos (by omega), show (first + (i : Int) - first).toNat = i by omega]
def hereA (first : Int) (A : List WSeg) : Int := first + (atA A : Int)
theorem OnD.getF {fm : Int → Option FileM} {first : Int} {A C : List WSeg} (h : OnD fm first A C) (hC : ∀ i : Nat, (C[i]?).isSome = true → (A[i]?).isSome = true) (i : Nat) : getF fm (first + (i : Int)) = (bytA A i, ((bytA C i).length : Int), (C[i]?).isSome) := by
  unfold Go.Proofs.YtfiplhnplmadmaaDoor.getF; rw [h.get]
  by_cases hi : (A[i]?).isSome = true
  · rw [if_pos hi]; rfl
  · rw [if_neg hi]
    have h1 : A[i]? = none := by simpa using hi
    have h2 : C[i]? = none := by cases hc : C[i]? with
      | none => rfl
      | some y => exact absurd (hC i (by rw [hc]; rfl)) hi
    unfold bytA; rw [h1, h2]; rfl
theorem OnD.put {fm : Int → Option FileM} {first : Int} {A C : List WSeg} (h : OnD fm first A C) {f : WSeg → WSeg} {t : List UInt8} (hC : ∀ i : Nat, (C[i]?).isSome = true → (A[i]?).isSome = true) (hf : ∀ k, bytA (putA A f) k = if k = atA A then bytA A k ++ t else bytA A k) :
    OnD (putF fm (hereA first A) ((Go.Proofs.YtfiplhnplmadmaaDoor.getF fm (hereA first A)).1 ++ t, (Go.Proofs.YtfiplhnplmadmaaDoor.getF fm (hereA first A)).2)) first (putA A f) C := fun k => by
  unfold putF hereA
  rw [h.getF hC]
  by_cases hk : k = first + (atA A : Int)
  · rw [if_pos hk, flW, if_pos (by omega), show (k - first).toNat = atA A by omega, some_put, if_pos (by simp), hf, if_pos rfl]
  · rw [if_neg hk, h]
    unfold flW
    by_cases hl : first ≤ k
    · have hne : ¬ (k - first).toNat = atA A := by omega
      have e1 : ((putA A f)[(k - first).toNat]?).isSome = (A[(k - first).toNat]?).isSome := by rw [some_put]; simp [hne]
      have e2 : bytA (putA A f) (k - first).toNat = bytA A (k - first).toNat := by rw [hf, if_neg hne]
      rw [if_pos hl, if_pos hl, e1, e2]
    · rw [if_neg hl, if_neg hl]
/-- The pieces of what is appended. -/
def pcsA (first : Int) : List WSeg → List ByteArray → List PcT
  | _, [] => []
  | A, x :: r => (hereA first A, ((frameB x).size : Int)) :: pcsA first (appA A x) r
theorem pcs_snoc (first : Int) (xs : List ByteArray) (x : ByteArray) (A : List WSeg) : pcsA first A (xs ++ [x]) = pcsA first A xs ++ [(hereA first (xs.foldl appA A), ((frameB x).size : Int))] := by
  induction xs generalizing A with
  | nil => rfl
  | cons y r ih => simp only [List.cons_append, pcsA, ih, List.foldl_cons]
/-- A disk on which xs came behind what was safe. -/
structure WSt (s : DkS) (first : Int) (A : List WSeg) (xs : List ByteArray) : Prop where
  on : OnD s.fm first (xs.foldl appA A) A
  ps : s.ps = pcsA first A xs
  ok : OkA A
  tx : ∀ x ∈ xs, x.size ≤ 65536
theorem some_run (xs : List ByteArray) (A : List WSeg) (i : Nat) (h : (A[i]?).isSome = true) : ((xs.foldl appA A)[i]?).isSome = true := by
  induction xs generalizing A with
  | nil => exact h
  | cons x r ih => exact ih _ (by unfold appA; rw [some_put, h]; simp)
theorem fapp_snoc (xs : List ByteArray) (x : ByteArray) (A : List WSeg) : (xs ++ [x]).foldl appA A = appA (xs.foldl appA A) x := by rw [List.foldl_append]; rfl
theorem WSt.write {s : DkS} {first : Int} {A : List WSeg} {xs : List ByteArray} (h : WSt s first A xs) {x : ByteArray} (hx : x.size ≤ 65536) (hn : wrE (hereA first (xs.foldl appA A)) = 0) : WSt (wrS s (hereA first (xs.foldl appA A)) (frameB x)) first A (xs ++ [x]) := by
  unfold wrS; rw [if_pos hn]
  refine ⟨?_, ?_, h.ok, fun z hz => ?_⟩
  · rw [fapp_snoc]
    exact h.on.put (fun i hi => some_run xs A i hi) (fun k => byt_app _ x k)
  · show s.ps ++ _ = _
    rw [h.ps, pcs_snoc]
  · rcases List.mem_append.1 hz with hz | hz
    · exact h.tx z hz
    · simp at hz; subst hz; exact hx
/-- On a disk whose files have A's bytes, C's bytes are safe. -/
def SafeD (fm : Int → Option FileM) (first : Int) (A C : List WSeg) : Prop := OnD fm first A C ∧ (∀ i : Nat, (C[i]?).isSome = true → (A[i]?).isSome = true) ∧ ∀ i : Nat, bytA C i <+: bytA A i
theorem SafeD.step {fm : Int → Option FileM} {first : Int} {A C : List WSeg} (h : SafeD fm first A C) {f : WSeg → WSeg} {t : List UInt8} (hf : ∀ k, bytA (putA C f) k = if k = atA C then bytA C k ++ t else bytA C k) (ha : (A[atA C]?).isSome = true) (hp : bytA C (atA C) ++ t <+: bytA A (atA C)) {kp : Int} (hk : kp = (t.length : Int)) :
    SafeD (putF fm (hereA first C) ((getF fm (hereA first C)).1, (getF fm (hereA first C)).2.1 + kp, true)) first A (putA C f) := by
  obtain ⟨h1, h2, h3⟩ := h
  refine ⟨fun k => ?_, fun i hi => ?_, fun i => ?_⟩
  · unfold putF hereA
    rw [h1.getF h2]
    by_cases hk2 : k = first + (atA C : Int)
    · rw [if_pos hk2, flW, if_pos (by omega), show (k - first).toNat = atA C by omega, if_pos ha, some_put, hf, if_pos rfl]
      simp [List.length_append, hk]
    · rw [if_neg hk2, h1]
      unfold flW
      by_cases hl : first ≤ k
      · have hne : ¬ (k - first).toNat = atA C := by omega
        have e1 : ((putA C f)[(k - first).toNat]?).isSome = (C[(k - first).toNat]?).isSome := by rw [some_put]; simp [hne]
        have e2 : bytA (putA C f) (k - first).toNat = bytA C (k - first).toNat := by rw [hf, if_neg hne]
        rw [if_pos hl, if_pos hl, e1, e2]
      · rw [if_neg hl, if_neg hl]
  · rw [some_put] at hi
    by_cases e : i = atA C
    · rw [e]; exact ha
    · simp [e] at hi; exact h2 i (by simpa using hi)
  · rw [hf]; split
    · rename_i e; rw [e]; exact hp
    · exact h3 i
end Go.Proofs.YtfiplhnplmadmaaDoor

/- A range over a function that may be left, whose iterator turns what the caller told it of (Qp). Conditions: none. -/
namespace Go.Proofs.YtfiplhnplmadmaaDoor
open Go.RowKit Go.Shelf
set_option linter.unusedVariables false

/-- What a block that is neither cells nor a map leaves as it was. -/
def ShutQ {β : Type} (B : Nat) (I : β → World → Prop) : Prop :=
  ∀ s W W' row, I s W → W.grownBy W' row → (∀ r, row = some r → B ≤ r ∧ ∃ o : Obj, W.heap[r]? = some o ∧ o.isCells = false ∧ o.isWalk = false) → I s W'
/-- It yields the first of such a list, up to whoever stops it. -/
def SeqQ {α : Type} (P : Program) (gf : Nat) (lb : Array Value) (encs : α → Array Value) (Kp Qp : World → World → Prop) (ks : List α → Prop) (w : World) : Prop :=
  ∀ (l : Nat) (J Jx : List α → World → Prop) (W : World), Below w.heap.size w W → w.heap.size + 2 ≤ W.heap.size →
    (∀ pre A B, J pre A → A.grownBy B none → J pre B) → (∀ pre A B, Jx pre A → A.grownBy B none → Jx pre B) → (∀ pre A B, J pre A → Qp A B → J pre B) →
    (∀ pre x A ys, J pre A → ks ys → (pre ++ [x]) <+: ys → YieldAt Fence.wide 1 P l (encs x) A fun e B => (e = .returned (.bool true) ∧ J (pre ++ [x]) B ∧ Kp A B) ∨ (e = .returned (.bool false) ∧ Jx (pre ++ [x]) B)) →
    J [] W → CallsIn Fence.wide 2 P gf (#[.func (.yield l) #[] #[]] ++ lb) W fun e B => (∃ v, e = .returned v) ∧ ((∃ ys, ks ys ∧ J ys B) ∨ ∃ ys pre, ks ys ∧ pre <+: ys ∧ Jx pre B)
theorem rf_q {α : Type} {P : Program} {n : Nat} {g : Operand} {ps : Array Tmp} {assign body : Code} {Q : Exit → Act → World → Prop} {a : Act} {w : World} {gf : Nat} {lb : Array Value} (hg : a.eval g = .func (.func gf) #[] lb)
    (eg : ∀ args w, (callFunc gf args).run P w = .ok (.enter gf args) w) {encs : α → Array Value} {Kp Qp : World → World → Prop} {ks : List α → Prop} (hseq : SeqQ P gf lb encs Kp Qp ks w) (hps : ∀ x, (encs x).size = ps.size)
    (hKt : ∀ {A B C : World}, Kp A B → Kp B C → Kp A C) (hKb : ∀ (W : World) (o o' : Obj), W.heap[w.heap.size + 1]? = some o → o.isCells = false → o.isWalk = false → Kp W (W.putObj (w.heap.size + 1) o'))
    (hQ : ∀ (A B : World), Qp A B → ∀ (k : Nat) (o : Obj), A.heap[k]? = some o → o.isCells = false → o.isWalk = false → B.heap[k]? = some o)
    (I : List α → World → Prop) (Ix : Code → List α → World → Prop) (hI : ShutQ w.heap.size I) (hIQ : ∀ pre A B, I pre A → Qp A B → I pre B) (hIx : ∀ c, ShutQ w.heap.size (Ix c)) (h0 : I [] w) (Ax : α → Act → World → Prop) (hAx : ∀ x a', ShutQ w.heap.size (fun (_ : Unit) W => Ax x a' W))
    (hassign : ∀ (l : Nat) (pre : List α) (x : α) (W : World) (K : Act → World → Prop), w.heap.size + 1 < W.heap.size → I pre W → (∀ a' W', KeepsFrom w.heap.size W W' → Kp W W' → I pre W' → Ax x a' W' → K a' W') →
      assign.wpIn (Fence.wide.inRound l) 1 P (Exit.then K (fun _ _ _ => False)) { tmps := (ps.zip (encs x)).foldl (fun t (p, v) => t.setIfInBounds p v) a.tmps, defers := [] } W)
    (hbody : ∀ (l : Nat) (pre : List α) (x : α) (a' : Act) (W : World), w.heap.size + 1 = l → (∃ r, W.heap[l]? = some (.loop r)) → I pre W → Ax x a' W → (∃ ys, ks ys ∧ (pre ++ [x]) <+: ys) → body.wpIn (Fence.wide.inRound l) 1 P (ownPostG w.heap.size Kp I Ix (pre ++ [x]) W) a' W)
    (hdone : ∀ (D : Nat) (ys : List α) (W : World), w.heap.size ≤ D → ks ys → I ys W → W.heap[D]? = some (.deferred (some [])) → Q .normal { a with defers := { target := .collected D, args := #[] } :: a.defers } W)
    (hstop : ∀ (D : Nat) (c : Code) (pre ys : List α) (W : World), w.heap.size ≤ D → ks ys → pre <+: ys → Ix c pre W → W.heap[D]? = some (.deferred (some [])) → c.wpIn Fence.wide n P Q { a with defers := { target := .collected D, args := #[] } :: a.defers } W) :
    (Code.rangeFunc g ps assign body).wpIn Fence.wide n P Q a w := by
  refine wpIn_rangeFunc fun fn hfn => ?_
  obtain ⟨rec, hrec⟩ : ∃ rec : LoopState → Option Code → Loop, rec = fun st pe => { state := st, pending := pe, fn := fn, tmps := a.tmps, params := ps, assign := assign, body := body, defers := w.heap.size } := ⟨_, rfl⟩
  obtain ⟨V, hV⟩ : ∃ V, V = (w.alloc (.deferred (some []))).alloc (.loop (rec .ready none)) := ⟨_, rfl⟩
  have vL : V.heap[w.heap.size + 1]? = some (.loop (rec .ready none)) := by rw [hV]; have := World.alloc_heap_new (w.alloc (.deferred (some []))) (.loop (rec .ready none)); rwa [World.size_alloc] at this
  have vD : V.heap[w.heap.size]? = some (.deferred (some [])) := by rw [hV]; exact (Below.heap_alloc _ _ _ (by simp)).trans (World.alloc_heap_new w _)
  have vS : V.heap.size = w.heap.size + 2 := by rw [hV]; simp
  have vI : I [] V := by rw [hV]; exact hI _ _ _ none (hI _ _ _ none h0 (World.grownBy_alloc _ _ _) (fun _ e => nomatch e)) (World.grownBy_alloc _ _ _) (fun _ e => nomatch e)
  have vB : Below w.heap.size w V := by rw [hV]; exact ((Below.refl _ w).alloc (Nat.le_refl _) _).alloc (by simp) _
  refine ⟨w.heap.size + 1, [{ target := .collected w.heap.size, args := #[] }], V, { target := .fn (.func gf) lb, args := #[.func (.yield (w.heap.size + 1)) #[] #[]] }, V, gf,
    #[.func (.yield (w.heap.size + 1)) #[] #[]] ++ lb, V, by rw [hV, hrec]; exact run_enterLoop_outer _ _ _ _ _, by simp only [resolve, hg]; simp [go_sem], (fun f' hf' => by simp [Target.leads] at hf'; subst hf'; trivial), by simp [invoke, go_sem, eg], (fun h => by cases h), ?_⟩
  have put : ∀ {s : List α} {W : World} {r : Loop} (o' : Obj) {I2 : List α → World → Prop}, ShutQ w.heap.size I2 → I2 s W → W.heap[w.heap.size + 1]? = some (.loop r) → I2 s (W.putObj (w.heap.size + 1) o') :=
    fun {s W r} o' {I2} h hs hl => h s W _ (some (w.heap.size + 1)) hs (grownBy_putObj' W _ o') (fun k e => by cases e; exact ⟨Nat.le_succ _, _, hl, rfl, rfl⟩)
  have same0 : ∀ {A B : World}, A.grownBy B none → ∀ {k : Nat} {o : Obj}, A.heap[k]? = some o → B.heap[k]? = some o :=
    fun {A B} hg' {k o} h => (hg'.block _ (Array.getElem?_eq_some_iff.1 h).1 (fun e => nomatch e)).trans h
  refine (callsIn_wide.2 (callsIn_wide.1 (hseq (w.heap.size + 1) (fun pre W => I pre W ∧ W.heap[w.heap.size + 1]? = some (.loop (rec .ready none)) ∧ W.heap[w.heap.size]? = some (.deferred (some [])))
    (fun pre W => ∃ c, Ix c pre W ∧ W.heap[w.heap.size + 1]? = some (.loop (rec .done (some c))) ∧ W.heap[w.heap.size]? = some (.deferred (some []))) V vB (by omega) ?_ ?_ ?_ ?_ ⟨vI, vL, vD⟩))).mono ?_
  · rintro pre A B ⟨h1, h2, h3⟩ hg'
    exact ⟨hI pre A B none h1 hg' (fun r e => nomatch e), same0 hg' h2, same0 hg' h3⟩
  · rintro pre A B ⟨c, h1, h2, h3⟩ hg'
    exact ⟨c, hIx c pre A B none h1 hg' (fun r e => nomatch e), same0 hg' h2, same0 hg' h3⟩
  · rintro pre A B ⟨h1, h2, h3⟩ hq
    exact ⟨hIQ pre A B h1 hq, hQ A B hq _ _ h2 rfl rfl, hQ A B hq _ _ h3 rfl rfl⟩
  · rintro pre x A ys ⟨h1, h2, h3⟩ hks hp
    have hlt0 : w.heap.size + 1 < A.heap.size := (Array.getElem?_eq_some_iff.1 h2).1
    have hy := run_yield (P := P) (args := encs x) h2 (by rw [hrec]; exact hps x)
    rw [hrec] at hy
    refine ⟨fn, _, assign, body, hy, ?_⟩
    refine roundIn_of_wpIn hfn ?_
    refine hassign _ pre x A _ hlt0 h1 fun a' B kf kp h1' hax => ?_
    have b2 := kf.same _ _ (by omega) h2 rfl
    have b3 := kf.same _ _ (Nat.le_refl _) h3 rfl
    have hlt : w.heap.size + 1 < B.heap.size := (Array.getElem?_eq_some_iff.1 b2).1
    refine ⟨_, run_beginRound b2 (by rw [hrec]), ?_⟩
    have c2 : (B.putObj (w.heap.size + 1) (.loop { rec .ready none with state := .busy })).heap[w.heap.size + 1]? = some (.loop { rec .ready none with state := .busy }) := World.putObj_heap_same hlt
    have c3 : (B.putObj (w.heap.size + 1) (.loop { rec .ready none with state := .busy })).heap[w.heap.size]? = some (.deferred (some [])) := (World.putObj_heap_other (by omega)).trans b3
    have hw2 : Kp B (B.putObj (w.heap.size + 1) (.loop { rec .ready none with state := .busy })) := hKb _ _ _ b2 rfl rfl
    have ax2 : Ax x a' (B.putObj (w.heap.size + 1) (.loop { rec .ready none with state := .busy })) := hAx x a' () B _ (some (w.heap.size + 1)) hax (grownBy_putObj' B _ _) (fun k e => by cases e; exact ⟨Nat.le_succ _, _, b2, rfl, rfl⟩)
    refine wpIn_mono (hbody _ pre x a' _ rfl ⟨_, c2⟩ (put _ hI h1' b2) ax2 ⟨ys, hks, hp⟩) ?_
    have fin : ∀ (jump : Option Code) (W3 : World), KeepsFrom w.heap.size (B.putObj (w.heap.size + 1) (.loop { rec .ready none with state := .busy })) W3 →
        (Instr.endRound (w.heap.size + 1) jump).run P W3 = .ok (.bool jump.isNone) (W3.putObj (w.heap.size + 1) (.loop (rec (if jump.isNone then .ready else .done) jump))) ∧
        W3.heap[w.heap.size + 1]? = some (.loop { rec .ready none with state := .busy }) ∧
        (W3.putObj (w.heap.size + 1) (.loop (rec (if jump.isNone then .ready else .done) jump))).heap[w.heap.size + 1]? = some (.loop (rec (if jump.isNone then .ready else .done) jump)) ∧
        (W3.putObj (w.heap.size + 1) (.loop (rec (if jump.isNone then .ready else .done) jump))).heap[w.heap.size]? = some (.deferred (some [])) := fun jump W3 hk3 => by
      have hl3 := hk3.same _ _ (by omega) c2 rfl
      have := run_endRound (P := P) jump hl3
      rw [hrec] at this ⊢
      exact ⟨this, by rw [hrec] at hl3; exact hl3, World.putObj_heap_same (Array.getElem?_eq_some_iff.1 hl3).1, (World.putObj_heap_other (by omega)).trans (hk3.same _ _ (Nat.le_refl _) c3 rfl)⟩
    rintro e a3 W3 hq
    cases e with
    | normal =>
      obtain ⟨hk3, hkp3, hi3⟩ := hq
      obtain ⟨hr, hl3, hl4, hk4⟩ := fin none W3 hk3
      exact ⟨_, _, hr, .inl ⟨rfl, ⟨put _ hI hi3 hl3, hl4, hk4⟩, hKt kp (hKt (hKt hw2 hkp3) (hKb _ _ _ hl3 rfl rfl))⟩⟩
    | ret =>
      obtain ⟨hk3, hi3⟩ := hq
      obtain ⟨hr, hl3, hl4, hk4⟩ := fin (some .ret) W3 hk3
      exact ⟨_, _, hr, .inr ⟨rfl, .ret, put _ (hIx _) hi3 hl3, hl4, hk4⟩⟩
    | exit id =>
      obtain ⟨hk3, hi3⟩ := hq
      obtain ⟨hr, hl3, hl4, hk4⟩ := fin (some (.exit id)) W3 hk3
      exact ⟨_, _, hr, .inr ⟨rfl, .exit id, put _ (hIx _) hi3 hl3, hl4, hk4⟩⟩
    | goto t =>
      obtain ⟨hk3, hi3⟩ := hq
      obtain ⟨hr, hl3, hl4, hk4⟩ := fin (some (.goto t)) W3 hk3
      exact ⟨_, _, hr, .inr ⟨rfl, .goto t, put _ (hIx _) hi3 hl3, hl4, hk4⟩⟩
    | panic ch => exact hq.elim
    | outgrown => exact hq.elim
  · rintro e B ⟨⟨v, rfl⟩, (⟨ys, hks, h1, h2, h3⟩ | ⟨ys, pre, hks, hpre, c, h1, h2, h3⟩)⟩
    · exact ⟨none, _, by have := run_endLoop (P := P) h2 (by rw [hrec]; simp); rw [hrec] at this; exact this, hdone _ ys _ (Nat.le_refl _) hks (put _ hI h1 h2) ((World.putObj_heap_other (by omega)).trans h3)⟩
    · exact ⟨some c, _, by have := run_endLoop (P := P) h2 (by rw [hrec]; simp); rw [hrec] at this; exact this, hstop _ c pre ys _ (Nat.le_refl _) hks hpre (put _ (hIx c) h1 h2) ((World.putObj_heap_other (by omega)).trans h3)⟩
end Go.Proofs.YtfiplhnplmadmaaDoor

/- Package wal: filesFrom as an iterator; segments. Conditions: at most 1000 segments. -/
namespace Go.Proofs.YtfiplhnplmadmaaDoor
open Go.RowKit Go.Shelf
attribute [local go_sem] Oper.semAt_some
set_option linter.unusedVariables false

/-- The files from first on are A's. -/
def Logs (fm : Int → Option FileM) (first : Int) (A : List WSeg) : Prop := OkA A ∧ ∀ i : Nat, (fm (first + (i : Int))).isSome = (A[i]?).isSome ∧ (getF fm (first + (i : Int))).1 = bytA A i
theorem OnD.logs {fm : Int → Option FileM} {first : Int} {A C : List WSeg} (h : OnD fm first A C) (hC : ∀ i : Nat, (C[i]?).isSome = true → (A[i]?).isSome = true) (hA : OkA A) : Logs fm first A :=
  ⟨hA, fun i => ⟨by rw [h.get]; by_cases e : (A[i]?).isSome = true <;> simp [e], by rw [h.getF hC]⟩⟩
theorem WSt.logs {s : DkS} {first : Int} {A : List WSeg} {xs : List ByteArray} (h : WSt s first A xs) : Logs s.fm first (xs.foldl appA A) := h.on.logs (fun i hi => some_run xs A i hi) (h.ok.run h.tx)
def segN (first : Int) (n : Nat) : List Int := (List.range n).map fun i : Nat => first + (i : Int)
theorem segN_len (first : Int) (n : Nat) : (segN first n).length = n := by simp [segN]
theorem segN_get (first : Int) (n i : Nat) (h : i < n) : (segN first n)[i]? = some (first + (i : Int)) := by simp [segN, h]
theorem segN_mem {first : Int} {n : Nat} {k : Int} : k ∈ segN first n ↔ first ≤ k ∧ k < first + (n : Int) := by
  simp only [segN, List.mem_map, List.mem_range]
  constructor
  · rintro ⟨i, hi, rfl⟩; omega
  · rintro ⟨h1, h2⟩; exact ⟨(k - first).toNat, by omega, by omega⟩
theorem segN_rises (first : Int) (n : Nat) : (segN first n).Pairwise (· < ·) := by
  rw [segN, List.pairwise_map]
  exact List.pairwise_lt_range.imp (fun h => by omega)
theorem rises_eq : ∀ {a b : List Int}, a.Pairwise (· < ·) → b.Pairwise (· < ·) → (∀ k, k ∈ a ↔ k ∈ b) → a = b
  | [], [], _, _, _ => rfl
  | [], y :: b, _, _, h => by have := (h y).2 (List.mem_cons_self ..); cases this
  | x :: a, [], _, _, h => by have := (h x).1 (List.mem_cons_self ..); cases this
  | x :: a, y :: b, ha, hb, h => by
    obtain ⟨a1, a2⟩ := List.pairwise_cons.1 ha
    obtain ⟨b1, b2⟩ := List.pairwise_cons.1 hb
    have e : x = y := by
      have h1 := (h x).1 (List.mem_cons_self ..)
      have h2 := (h y).2 (List.mem_cons_self ..)
      rcases List.mem_cons.1 h1 with e | e
      · exact e
      · rcases List.mem_cons.1 h2 with e2 | e2
        · exact e2.symm
        · have := a1 y e2; have := b1 x e; omega
    subst e
    rw [rises_eq a2 b2 fun k => ?_]
    constructor
    · intro hk
      rcases List.mem_cons.1 ((h k).1 (List.mem_cons_of_mem _ hk)) with e | e
      · subst e; have := a1 k hk; omega
      · exact e
    · intro hk
      rcases List.mem_cons.1 ((h k).2 (List.mem_cons_of_mem _ hk)) with e | e
      · subst e; have := b1 k hk; omega
      · exact e
/-- What the iterator yields: the numbers not below first. -/
def FilK (fm : Int → Option FileM) (first : Int) (c : Nat) (ys : List Int) : Prop := ∃ zs, KeysF fm zs ∧ zs.length ≤ c ∧ ys = zs.filter (fun z => decide (first ≤ z))
theorem Logs.fil {fm : Int → Option FileM} {first : Int} {A : List WSeg} (h : Logs fm first A) {c : Nat} {ys : List Int} (hf : FilK fm first c ys) : ys = segN first A.length := by
  obtain ⟨zs, ⟨h1, h2⟩, h3, rfl⟩ := hf
  refine rises_eq (h1.filter _) (segN_rises _ _) fun k => ?_
  rw [List.mem_filter, h2, segN_mem, decide_eq_true_iff]
  constructor
  · rintro ⟨h4, h5⟩
    refine ⟨h5, ?_⟩
    have h6 := (h.2 (k - first).toNat).1
    rw [show first + ((k - first).toNat : Int) = k by omega, h4] at h6
    have := (List.getElem?_eq_some_iff.1 (Option.isSome_iff_exists.1 h6.symm).choose_spec).1
    omega
  · rintro ⟨h4, h5⟩
    refine ⟨?_, h4⟩
    have h6 := (h.2 (k - first).toNat).1
    rw [show first + ((k - first).toNat : Int) = k by omega] at h6
    rw [h6, List.getElem?_eq_getElem (by omega)]; rfl
theorem flat_ints (k : IntKind) (ys : List Int) : ys.flatMap (intE k) = ys.map (fun y => Value.int k y) := by
  induction ys with
  | nil => rfl
  | cons y r ih => rw [List.flatMap_cons, ih]; rfl
/-- The block of the row that the box N holds. -/
def ownN (N : Nat) (W : World) : Option Nat := (W.cell? ⟨N, 0, none⟩).bind Value.ownBlock
/-- What a round turns: the boxes N and N + 1, the row that N holds. -/
structure KpW (N : Nat) (A B : World) : Prop where
  sz : A.heap.size ≤ B.heap.size
  keep : ∀ k cs T fr, A.heap[k]? = some (.cells cs T fr) → k ≠ N → k ≠ N + 1 → ownN N A ≠ some k → B.heap[k]? = A.heap[k]?
  own : ∀ k, ownN N B = some k → ownN N A = some k ∨ A.heap.size ≤ k
theorem KpW.trans {N : Nat} {A B C : World} (h : KpW N A B) (g : KpW N B C) : KpW N A C := by
  refine ⟨Nat.le_trans h.sz g.sz, fun k cs T fr hk h1 h2 h3 => ?_, fun k hk => ?_⟩
  · have e := h.keep k cs T fr hk h1 h2 h3
    have hl := (Array.getElem?_eq_some_iff.1 hk).1
    rw [← e]
    refine g.keep k cs T fr (e.trans hk) h1 h2 (fun ho => ?_)
    rcases h.own k ho with q | q
    · exact h3 q
    · omega
  · rcases g.own k hk with q | q
    · exact h.own k q
    · exact .inr (Nat.le_trans h.sz q)
theorem KpW.refl (N : Nat) (A : World) : KpW N A A := ⟨Nat.le_refl _, fun _ _ _ _ _ _ _ _ => rfl, fun _ h => .inl h⟩
theorem ownN_eq {N : Nat} {A B : World} (h : B.heap[N]? = A.heap[N]?) : ownN N B = ownN N A := by unfold ownN; rw [World.cell?_of_block (a := ⟨N, 0, none⟩) h]
theorem KpW.putObj {N r : Nat} {W : World} {o o' : Obj} (h : W.heap[r]? = some o) (hc : o.isCells = false) (hr : N ≠ r) : KpW N W (W.putObj r o') := by
  refine ⟨by simp [World.putObj], fun k cs T fr hk _ _ _ => World.putObj_heap_other (fun e => ?_), fun k hk => .inl ?_⟩
  · subst e; rw [h] at hk; cases hk; cases hc
  · rw [← hk]; exact (ownN_eq (World.putObj_heap_other hr)).symm
theorem KpW.grown {N : Nat} {A B : World} (hg : A.grownBy B none) (hN : N < A.heap.size) : KpW N A B := by
  refine ⟨hg.size, fun k cs T fr hk _ _ _ => hg.block k (Array.getElem?_eq_some_iff.1 hk).1 (fun e => nomatch e), fun k hk => .inl ?_⟩
  rw [← hk]; exact (ownN_eq (hg.block N hN (fun e => nomatch e))).symm
theorem ownN_of {N : Nat} {W : World} {T : TypeId} {v : Value} (h : Boxed W N T v) : ownN N W = v.ownBlock := by unfold ownN; rw [h.cell]; rfl
def QpD (base d c : Nat) (s : DkS) (A B : World) : Prop := ButD base A B ∧ DObj base B d c s
theorem QpD.keep {base d c : Nat} {s : DkS} {A B : World} (h : QpD base d c s A B) (k : Nat) (o : Obj) (ho : A.heap[k]? = some o) (h1 : o.isCells = false) (h2 : o.isWalk = false) : B.heap[k]? = some o := by
  rw [← ho]
  refine h.1.block k (Array.getElem?_eq_some_iff.1 ho).1 (fun hs => ?_)
  rcases hs.2 with ⟨cs, T, fr, e, _⟩ | ⟨es, cl, e⟩
  · rw [ho] at e; cases e; cases h1
  · rw [ho] at e; cases e; cases h2
theorem int_off : offD 3 := by decide
theorem boxD {base : Nat} {w x : World} {B : Nat} {T : TypeId} {v : Value} (h : Boxed w B T v) (hT : offD T) (hb : ButD base w x) : Boxed x B T v := blkD (h : Blk w B T #[v]) hT hb

set_option maxRecDepth 100000 in
set_option maxHeartbeats 4000000 in
theorem ff_in {base d c : Nat} {s : DkS} (l N : Nat) (first : Int) (Bd Bf : Nat) (J Jx : List Int → World → Prop) (hc : c ≤ 1000000)
    (hJ : ∀ pre A B, J pre A → A.grownBy B none → J pre B) (hJQ : ∀ pre A B, J pre A → QpD base d c s A B → J pre B)
    (hY : ∀ pre x A ys, J pre A → FilK s.fm first c ys → (pre ++ [x]) <+: ys → YieldAt Fence.wide 1 Tryd.prog l #[.int .i64 x] A fun e B => (e = .returned (.bool true) ∧ J (pre ++ [x]) B ∧ KpW N A B) ∨ (e = .returned (.bool false) ∧ Jx (pre ++ [x]) B))
    (W : World) (hN : N + 1 < W.heap.size) (hNo : ownN N W = none) (hNt : ∃ T v, offD T ∧ Boxed W N T v) (hBd : Boxed W Bd 25 (pt d 0)) (hBf : Boxed W Bf 3 (.int .i64 first)) (hf1 : Bf ≠ N ∧ Bf ≠ N + 1) (hD : DObj base W d c s) (h0 : J [] W) :
    CallsIn Fence.wide 2 Tryd.prog 62 #[.func (.yield l) #[] #[], .pointer (some ⟨Bd, 0, none⟩), .pointer (some ⟨Bf, 0, none⟩)] W fun e B => (∃ v, e = .returned v) ∧ ((∃ ys, FilK s.fm first c ys ∧ J ys B) ∨ ∃ ys pre, FilK s.fm first c ys ∧ pre <+: ys ∧ Jx pre B) := by
  have cd := hBd.cell
  simp only [pt] at cd
  have HJ := Lib.hid hJ; have HJQ := Lib.hid hJQ; have HY := Lib.hid hY; have HNO := Lib.hid hNo; have HNT := Lib.hid hNt; have HBD := Lib.hid hBd; have HBF := Lib.hid hBf; have HF1 := Lib.hid hf1; have HD := Lib.hid hD; have H0 := Lib.hid h0
  clear hJ hJQ hY hNo hNt hBd hBf hf1 hD h0
  refine callsIn_of_wp Tryd.func62 rfl trivial ?_ rfl
  simp only [Tryd.ntmps62, List.size_toArray, List.length_cons, List.length_nil, Nat.reduceAdd, Nat.reduceSub, Array.replicate_succ, Array.replicate_zero, List.push_toArray, List.append_toArray, List.nil_append, List.cons_append]
  have h1 : 1 ≤ (2 : Nat) := by omega
  gi_wp2_with fail
  refine ⟨trivial, ?_⟩
  gi_at_call 26
  refine (callsIn_wide.2 (tFiles W HD.out hc)).mono ?_
  rintro e9 w2 ⟨ys, u, rfl, hrow, hK, hlen, hD2, hb9⟩
  obtain ⟨ao, cap, hu, hmax, hat⟩ := row_view hrow
  subst hu
  have HROW := Lib.hid hrow; have HK := Lib.hid hK; have HD2 := Lib.hid hD2; have HB9 := Lib.hid hb9; have HAT := Lib.hid hat
  clear hrow hK hD2 hb9 hat
  gi_wp2_with fail
  gi_loopw [9] (fun p wr => ∃ i : Nat, p = .int .i64 (i : Int) ∧ i ≤ ys.length ∧ J ((ys.take i).filter (fun z => decide (first ≤ z))) wr ∧ wr.ownsRow W.heap.size 3 1 (.slice ao ys.length cap) ys.length (ys.flatMap (intE .i64)) ∧ Boxed wr Bf 3 (.int .i64 first) ∧ (∀ k, ownN N wr = some k → w2.heap.size ≤ k) ∧ w2.heap.size ≤ wr.heap.size)
    (fun p wr => ys.length - (intOf p).toNat)
  case atStart =>
    have hb9 := HB9.out
    have hN2 : ownN N w2 = none := by
      obtain ⟨T, v, hT, hv⟩ := HNT.out
      have h2 := boxD hv hT hb9
      have e1 := ownN_of h2; have e2 := ownN_of hv
      rw [e1, ← e2]; exact HNO.out
    exact ⟨0, rfl, Nat.zero_le _, by simpa using HJQ.out [] W w2 H0.out ⟨hb9, HD2.out⟩, HROW.out, boxD HBF.out int_off hb9, fun k hk => (by rw [hN2] at hk; cases hk), Nat.le_refl _⟩
  case round =>
    obtain ⟨i, rfl, hi, hJi, hrow, hbf, hown, hsz⟩ := hrel
    have hf9 := hbf.cell
    by_cases hlt : i < ys.length
    · obtain ⟨y, hy⟩ : ∃ y, ys[i]? = some y := ⟨_, List.getElem?_eq_getElem hlt⟩
      have hcell : ∃ g, ao = some ⟨g, 0, none⟩ ∧ wr.cell? ⟨g, i, none⟩ = some (.int .i64 y) := by
        obtain ⟨ao', c', e, -, h9⟩ := row_view hrow
        cases e
        obtain ⟨g, e1, -, e2⟩ := h9 i hlt
        exact ⟨g, e1, by rw [e2, flat_ints, List.getElem?_map, hy]; rfl⟩
      obtain ⟨g, rfl, hg⟩ := hcell
      have HY1 := Lib.hid hy; have HJI := Lib.hid hJi; have HR := Lib.hid hrow; have HBF1 := Lib.hid hbf; have HOW := Lib.hid hown; have HSZ := Lib.hid hsz
      clear hy hJi hrow hbf hown
      have hsn : (ys.take (i + 1)).filter (fun z => decide (first ≤ z)) = (ys.take i).filter (fun z => decide (first ≤ z)) ++ (if first ≤ y then [y] else []) := by
        rw [List.take_add_one, HY1.out, List.filter_append]
        congr 1
        by_cases h : first ≤ y <;> simp [h]
      by_cases hfy : first ≤ y
      · rw [if_pos hfy] at hsn
        have hpre : ((ys.take i).filter (fun z => decide (first ≤ z))) ++ [y] <+: ys.filter (fun z => decide (first ≤ z)) := by
          rw [← hsn]; exact (List.take_prefix _ _).filter _
        obtain ⟨fn, tmps, asg, body, hy9, hR⟩ := HY.out _ y wr _ HJI.out ⟨ys, HK.out, hlen, rfl⟩ hpre
        have HSN := Lib.hid hsn; clear hsn hpre
        gi_wp2
        refine hR.mono ?_
        rintro e8 W3 (⟨rfl, hJ3, hk3⟩ | ⟨rfl, hJx3⟩)
        · have HJ3 := Lib.hid hJ3; have HK3 := Lib.hid hk3; clear hJ3 hk3 hy9
          gi_wp2
          go_roundw
          case rel =>
            have hk := HK3.out
            have hrow := HR.out
            have hr3 : W3.ownsRow W.heap.size 3 1 (.slice (some ⟨g, 0, none⟩) ys.length cap) ys.length (ys.flatMap (intE .i64)) := by
              refine row_same hrow hk.sz (fun j hj => ?_)
              obtain ⟨cs, hcs⟩ := row_block hrow hj
              have h2 := ((HROW.out).lt j hj)
              exact hk.keep j cs _ _ hcs (by omega) (by omega) (fun ho => by have := HOW.out j ho; omega)
            have hf3 : Boxed W3 Bf 3 (.int .i64 first) := by
              have h2 := (HBF.out).lt
              have h3 := HBF1.out
              unfold Boxed at h3 ⊢
              rw [hk.keep Bf _ _ _ h3 HF1.out.1 HF1.out.2 (fun ho => by have := HOW.out Bf ho; have := (HB9.out).size; omega)]; exact h3
            exact ⟨i + 1, rfl, by omega, by rw [HSN.out]; exact HJ3.out, hr3, hf3, fun k hk2 => (by rcases hk.own k hk2 with q | q; exact HOW.out k q; have := HSZ.out; omega), by have := hk.sz; have := HSZ.out; omega⟩
          case measure =>
            show ys.length - (((i : Int) + 1).toNat) < ys.length - (i : Int).toNat
            omega
        · have HX := Lib.hid hJx3; clear hJx3 hy9
          gi_wp2
          refine bodyPost_ret (results_none rfl _ _ _) rfl ?_
          exact ⟨⟨_, rfl⟩, .inr ⟨_, _, ⟨ys, HK.out, hlen, rfl⟩, by rw [← HSN.out]; exact (List.take_prefix _ _).filter _, HX.out⟩⟩
      · rw [if_neg hfy, List.append_nil] at hsn
        have HSN := Lib.hid hsn; clear hsn
        gi_wp2
        all_goals refine ⟨by first | trivial | exact fun _ h => (by cases h), ?_⟩
        all_goals gi_wp2
        refine ⟨⟨i + 1, rfl, by omega, by rw [HSN.out]; exact HJI.out, HR.out, HBF1.out, HOW.out, HSZ.out⟩, ?_⟩
        show ys.length - (((i : Int) + 1).toNat) < ys.length - (i : Int).toNat
        omega
    · have hq : i = ys.length := by omega
      subst hq
      rw [List.take_length] at hJi
      have HJI := Lib.hid hJi; clear hJi hrow hbf hown
      gi_wp2
      go_end0
      exact ⟨⟨_, rfl⟩, .inl ⟨_, ⟨ys, HK.out, hlen, rfl⟩, HJI.out⟩⟩
end Go.Proofs.YtfiplhnplmadmaaDoor

/- Package wal: segments. Conditions: at most 1000 segments. -/
namespace Go.Proofs.YtfiplhnplmadmaaDoor
open Go.RowKit Go.Shelf
attribute [local go_sem] Oper.semAt_some
set_option linter.unusedVariables false

theorem filesFrom_any (d : Nat) (first : Int) (w : World) :
    CallsIn Fence.wide 2 Tryd.prog 46 #[.pointer (some ⟨d, 0, none⟩), .int .i64 first] w fun e w' => e = .returned (.func (.func 62) #[] #[.pointer (some ⟨w.heap.size, 0, none⟩), .pointer (some ⟨w.heap.size + 1, 0, none⟩)]) ∧
      w' = (w.alloc (.cells #[.pointer (some ⟨d, 0, none⟩)] 25)).alloc (.cells #[.int .i64 first] 3) := by
  refine callsIn_of_wp Tryd.func46 rfl trivial ?_ rfl
  simp only [Tryd.ntmps46, List.size_toArray, List.length_cons, List.length_nil, Nat.reduceAdd, Nat.reduceSub, Array.replicate_succ, Array.replicate_zero, List.push_toArray, List.append_toArray, List.nil_append, List.cons_append]
  gi_wp2
  go_ret
  exact ⟨rfl, rfl⟩
theorem ff_seq {base d c : Nat} {s : DkS} (N : Nat) (first : Int) (Bd Bf : Nat) (hc : c ≤ 1000000) (w : World) (hN : N + 1 < w.heap.size) (hNo : ownN N w = none) (hNt : ∃ T v, offD T ∧ Boxed w N T v) (hBd : Boxed w Bd 25 (pt d 0)) (hBf : Boxed w Bf 3 (.int .i64 first)) (hf1 : Bf ≠ N ∧ Bf ≠ N + 1) (hD : DObj base w d c s) :
    SeqQ Tryd.prog 62 #[.pointer (some ⟨Bd, 0, none⟩), .pointer (some ⟨Bf, 0, none⟩)] (fun y : Int => #[.int .i64 y]) (KpW N) (QpD base d c s) (FilK s.fm first c) w := by
  intro l J Jx W hW hsz hJ hJx hJQ hY h0
  have hg := below_grown hW
  have kp : ∀ {B T v}, Boxed w B T v → Boxed W B T v := fun h => Boxed.kept h hg (fun e => nomatch e)
  refine ff_in l N first Bd Bf J Jx hc hJ hJQ hY W (by omega) ?_ ?_ (kp hBd) (kp hBf) hf1 (hD.call hW) h0
  · rw [ownN_eq (hW.block N (by omega))]; exact hNo
  · obtain ⟨T, v, h1, h2⟩ := hNt; exact ⟨T, v, h1, kp h2⟩
theorem wpListIn_append_went {F : Fence} {n : Nat} {P : Program} (w : World) {ops : Array Oper} {rest : List Oper} {o : Oper} {a : Act} {Q : Exit → Act → World → Prop}
    (hg : o.guard = none) (s x : Operand) (t : TypeId) (hop : o.op = Op.call { callee := Callee.builtin Builtin.append, args := #[s, x], argTypes := #[t, t] })
    (base : Nat) (e : TypeId) (i : TypeInfo) (z : Value) (size bytes : Nat) (h1 : P.underlying t = some (.slice e)) (h2 : P.info? e = some i) (h3 : i.zero = some z) (h4 : i.size = size) (h5 : i.bytes = bytes) (h6 : z.cells.size = size) (h7 : 0 < size)
    (v : Value) (k : Nat) (xs : List Value) (hs : a.eval s = v) (hown : w.ownsRow base e size v k xs) (ad : Addr) (m c : Nat) (news : List Value) (hx : a.eval x = .slice (some ad) m c) (hn : news.length = m * size)
    (hc : ∀ j u, news[j]? = some u → w.cell? (ad.add j) = some u) (h1c : ∀ u ∈ news, u.oneCell' = true) (b1 : k + m ≤ maxLen) (b2 : (k + m) * bytes ≤ 140737488355328) (b3 : base ≤ w.heap.size)
    (hK : ∀ v' w', w'.ownsRow base e size v' (k + m) (xs ++ news) → w.grownBy w' v.ownBlock → Went w v v' → wpListIn F n P ops Q rest (a.put o.dst v') w') :
    wpListIn F n P ops Q (o :: rest) a w := by
  refine wpListIn_plain hg fun K hK' => ?_
  obtain ⟨v', w', hrun, r1, r2, r3⟩ := run_append_went (P := P) w base t o.type e i z size bytes h1 h2 h3 h4 h5 h6 h7 v k xs hown ad m c news hn hc h1c b1 b2 b3
  unfold Oper.wpIn
  refine ⟨?_, ?_⟩
  · simp [Oper.about, hop, resolve, Target.leads, Sem.run_pure]
  · rw [Oper.semAt_plain F _ _ (by rw [hop]; intro c hc'; cases hc')]
    simp [execOp, hop, resolve, invoke, builtin, hs, hx, hrun, Result.andThen]
    exact hK' _ _ (hK v' w' r1 r2 r3)
/-- What the walk of segments holds between rounds. -/
structure SgI (base d c : Nat) (s : DkS) (first : Int) (w : World) (N : Nat) (pre : List Int) (W : World) : Prop where
  row : ∃ v, Boxed W N 53 v ∧ W.ownsRow (N + 2) 3 1 v pre.length (pre.flatMap (intE .i64))
  nxt : Boxed W (N + 1) 3 (.int .i64 (first + (pre.length : Int)))
  obj : DObj base W d c s
  but : ButD base w W
theorem noty_of {W : World} {r : Nat} {o : Obj} (h : W.heap[r]? = some o) (h1 : o.isCells = false) (h2 : o.isWalk = false) : ¬ TyS W r := by
  rintro (⟨cs, T, fr, e, _⟩ | ⟨es, cl, e⟩)
  · rw [h] at e; cases e; cases h1
  · rw [h] at e; cases e; cases h2
theorem But.grown {S : Nat → Prop} {w W W' : World} {row : Option Nat} (h : But S w W) (hg : W.grownBy W' row) (hr : ∀ r, row = some r → w.heap.size ≤ r) : But S w W' :=
  ⟨hg.os.trans h.os, hg.tape.trans h.tape, hg.output.trans h.output, Nat.le_trans h.size hg.size, fun k hk hs => (hg.block k (Nat.lt_of_lt_of_le hk h.size) (fun e => by have := hr k e.symm; omega)).trans (h.block k hk hs)⟩
theorem row_noncells {W W' : World} {row : Option Nat} {B sz k : Nat} {e : TypeId} {v : Value} {xs : List Value} (h : W.ownsRow B e sz v k xs) (hg : W.grownBy W' row) (hr : ∀ r, row = some r → ∃ o : Obj, W.heap[r]? = some o ∧ o.isCells = false) : W'.ownsRow B e sz v k xs := by
  refine row_same h hg.size (fun i hi => hg.block i (h.lt i hi).2 (fun e1 => ?_))
  obtain ⟨o, h1, h2⟩ := hr i e1.symm
  obtain ⟨cs, h3⟩ := row_block h hi
  rw [h3] at h1; cases h1; cases h2
theorem info_intS : (Tryd.prog.info? 3).map (fun i => (i.zero, i.size, i.bytes)) = some (some (.int .i64 0), 1, 8) := by kernel_rfl
theorem boxed_non {W W' : World} {row : Option Nat} {B : Nat} {T : TypeId} {v : Value} (h : Boxed W B T v) (hg : W.grownBy W' row) (hr : ∀ r, row = some r → ∃ o : Obj, W.heap[r]? = some o ∧ o.isCells = false) : Boxed W' B T v :=
  h.kept hg (fun e => by
    obtain ⟨o, ho, hc⟩ := hr B e.symm
    unfold Boxed at h; rw [h] at ho; cases ho; cases hc)
theorem SgI.shut {base d c : Nat} {s : DkS} {first : Int} {w : World} {N B : Nat} (hB : w.heap.size ≤ B) : ShutQ B (SgI base d c s first w N) := by
  rintro pre W W' row ⟨⟨v, h1, h2⟩, h3, h4, h5⟩ hg hr
  have hr2 : ∀ r, row = some r → ∃ o : Obj, W.heap[r]? = some o ∧ o.isCells = false := fun r e => by obtain ⟨_, o, ho, hc, _⟩ := hr r e; exact ⟨o, ho, hc⟩
  exact ⟨⟨v, boxed_non h1 hg hr2, row_noncells h2 hg hr2⟩, boxed_non h3 hg hr2,
    h4.gr hg (fun r e => by obtain ⟨_, o, ho, hc, hw⟩ := hr r e; exact noty_of ho hc hw), h5.grown hg (fun r e => by have := (hr r e).1; omega)⟩
theorem butD_tr {base : Nat} {w A B : World} (h : ButD base w A) (g : ButD base A B) : ButD base w B :=
  h.trans' g (fun i hi hs => ⟨hs.1, by
    by_cases ht : TyS w i
    · exact ht
    · have e := h.block i hi (fun hq => ht hq.2)
      have h2 := hs.2
      unfold TyS at h2; rw [e] at h2; exact h2⟩)
theorem SgI.turn {base d c : Nat} {s : DkS} {first : Int} {w : World} {N : Nat} {pre : List Int} {A B : World} (h : SgI base d c s first w N pre A) (hq : QpD base d c s A B) : SgI base d c s first w N pre B := by
  obtain ⟨⟨v, h1, h2⟩, h3, h4, h5⟩ := h
  exact ⟨⟨v, boxD h1 (by decide) hq.1, rowD h2 int_off hq.1⟩, boxD h3 int_off hq.1, hq.2, butD_tr h5 hq.1⟩
set_option maxRecDepth 100000 in
set_option maxHeartbeats 4000000 in
theorem segments_any {base d c : Nat} {s : DkS} (first : Int) (A : List WSeg) (w : World) (hD : DObj base w d c s) (hc : c ≤ 1000000) (hL : Logs s.fm first A) (h1 : 1 ≤ first ∧ first ≤ 1073741824) (hA : A.length ≤ 100000) :
    Calls Tryd.prog 30 #[pt d 0, .int .i64 first] w fun e w' => ∃ u, e = .returned u ∧ w'.ownsRow w.heap.size 3 1 u A.length ((segN first A.length).flatMap (intE .i64)) ∧ DObj base w' d c s ∧ ButD base w w' := by
  obtain ⟨N, hN⟩ : ∃ N, N = w.heap.size := ⟨_, rfl⟩
  refine (callsIn_wide (n := 3)).1 ?_
  refine callsIn_of_wp_marks Tryd.func30 rfl trivial ?_ rfl
  simp only [pt, Tryd.ntmps30, List.size_toArray, List.length_cons, List.length_nil, Nat.reduceAdd, Nat.reduceSub, Array.replicate_succ, Array.replicate_zero, List.push_toArray, List.append_toArray, List.nil_append, List.cons_append]
  have h1' : 1 ≤ (3 : Nat) := by omega
  rw [← hN]
  have HN := Lib.hid hN; have HD := Lib.hid hD; have HL := Lib.hid hL
  clear hN hD hL
  gi_wp2
  refine wpIn_wide.2 ?_
  go_step3
  go_wp2
  go_step3
  go_wp2_with fail
  refine ((callsIn_wide (n := 2)).1 (filesFrom_any d first _)).mono ?_
  rintro e w' ⟨rfl, rfl⟩
  go_wp2_with fail
  obtain ⟨i0, hi, hz0, hz1, hz2⟩ := info_parts info_intS
  have bL := (((Boxed.new w 53 (.slice none 0 0)).alloc (.cells #[.int .i64 first] 3)).alloc (.cells #[.pointer (some ⟨d, 0, none⟩)] 25)).alloc (.cells #[.int .i64 first] 3)
  have bN := ((Boxed.new (w.alloc (.cells #[.slice none 0 0] 53)) 3 (.int .i64 first)).alloc (.cells #[.pointer (some ⟨d, 0, none⟩)] 25)).alloc (.cells #[.int .i64 first] 3)
  have bD := (Boxed.new ((w.alloc (.cells #[.slice none 0 0] 53)).alloc (.cells #[.int .i64 first] 3)) 25 (.pointer (some ⟨d, 0, none⟩))).alloc (.cells #[.int .i64 first] 3)
  have bF := Boxed.new (((w.alloc (.cells #[.slice none 0 0] 53)).alloc (.cells #[.int .i64 first] 3)).alloc (.cells #[.pointer (some ⟨d, 0, none⟩)] 25)) 3 (.int .i64 first)
  have hB0 : Below w.heap.size w ((((w.alloc (.cells #[.slice none 0 0] 53)).alloc (.cells #[.int .i64 first] 3)).alloc (.cells #[.pointer (some ⟨d, 0, none⟩)] 25)).alloc (.cells #[.int .i64 first] 3)) := ((((Below.refl _ w).alloc (Nat.le_refl _) _).alloc (by simp) _).alloc (by simp; omega) _).alloc (by simp; omega) _
  have hsz : ((((w.alloc (.cells #[.slice none 0 0] 53)).alloc (.cells #[.int .i64 first] 3)).alloc (.cells #[.pointer (some ⟨d, 0, none⟩)] 25)).alloc (.cells #[.int .i64 first] 3)).heap.size = w.heap.size + 4 := by simp
  simp only [World.size_alloc] at bN bD bF ⊢
  rw [← HN.out] at bL bN bD bF hB0 hsz ⊢
  obtain ⟨W0, hW0⟩ : ∃ W0, ((((w.alloc (.cells #[.slice none 0 0] 53)).alloc (.cells #[.int .i64 first] 3)).alloc (.cells #[.pointer (some ⟨d, 0, none⟩)] 25)).alloc (.cells #[.int .i64 first] 3)) = W0 := ⟨_, rfl⟩
  rw [hW0] at bL bN bD bF hB0 hsz ⊢
  clear hW0
  rw [HN.out] at hB0
  have hD0 := HD.out.call hB0
  have hwN : w.heap.size = N := HN.out.symm
  refine (wpIn_wide (n := 3)).1 ?_
  refine rf_q (gf := 62) (lb := #[.pointer (some ⟨N + 1 + 1, 0, none⟩), .pointer (some ⟨N + 1 + 1 + 1, 0, none⟩)]) rfl (enters_of Tryd.func62 (by kernel_rfl) rfl)
    (ff_seq (base := base) (d := d) (c := c) (s := s) N first (N + 1 + 1) (N + 1 + 1 + 1) hc W0 (by omega) (by rw [ownN_of bL]; rfl) ⟨_, _, by decide, bL⟩ bD bF (by omega) hD0) (fun _ => rfl) KpW.trans (fun W o o' h h1 h2 => KpW.putObj h h1 (by omega)) (fun A B h => h.keep)
    (SgI base d c s first w N) (fun _ _ _ => False) (SgI.shut (by omega)) (fun pre A B h hq => h.turn hq) (fun _ _ _ _ _ h => h.elim)
    ⟨⟨_, bL, World.ownsRow_nil _ _ _ _⟩, by simpa using bN, hD0, But.of_below hB0⟩
    (fun x a' _ => a' = { tmps := #[.pointer (some ⟨d, 0, none⟩), .int .i64 first, undef, undef, .slice none 0 0, .pointer (some ⟨N, 0, none⟩), .pointer (some ⟨N + 1, 0, none⟩), .int .i64 x, .int .i64 first, .pointer (some ⟨d, 0, none⟩), .int .i64 first, .func (.func 62) #[] #[.pointer (some ⟨N + 1 + 1, 0, none⟩), .pointer (some ⟨N + 1 + 1 + 1, 0, none⟩)], .int .i64 x, undef, undef, undef, undef, undef, undef, undef, undef, undef, undef], defers := [] })
    (fun _ _ _ _ _ _ h _ _ => h) ?assign ?body ?done ?stop
  case assign =>
    intro l pre x W K hlt hI hK
    gi_wp2
    exact hK _ _ (KeepsFrom.refl _ _) (KpW.refl _ _) hI rfl
  case stop => intro D c' pre ys W _ _ _ h; exact h.elim
  case body =>
    rintro l pre x a' W rfl ⟨r, hr⟩ ⟨⟨v, hv, hrow⟩, hn, hobj, hbut⟩ rfl ⟨ys, hks, hp⟩
    have hys := HL.out.fil hks
    subst hys
    have hlt : pre.length < A.length := by have := hp.length_le; rw [List.length_append, segN_len] at this; simp at this; omega
    have hx : x = first + (pre.length : Int) := by
      obtain ⟨tl, htl⟩ := hp
      have h1 : (segN first A.length)[pre.length]? = some x := by rw [← htl, List.append_assoc, List.getElem?_append_right (Nat.le_refl _)]; simp
      rw [segN_get _ _ _ hlt] at h1; exact (Option.some.inj h1).symm
    subst hx
    have hWs : N + 5 < W.heap.size := by have := (Array.getElem?_eq_some_iff.1 hr).1; omega
    have cv := hv.cell; have cn := hn.cell; have fv := hv.frozen; have fn := hn.frozen
    have HOB := Lib.hid hobj; have HBU := Lib.hid hbut; have HP := Lib.hid hp; have HKS := Lib.hid hks
    clear hobj hbut hp hks
    gi_wp2_with (gi_at_builtin; refine wpListIn_append_went _ rfl _ _ 53 rfl (N + 2) 3 i0 (.int .i64 0) 1 8 Tryd.underlying53 hi hz0 hz1 hz2 rfl (by decide) _ _ _ rfl (hrow.alloc _) ⟨W.heap.size, 0, none⟩ 1 1 [.int .i64 (first + (pre.length : Int))] rfl rfl (cell_one_new _ _ _) (by simp [Value.oneCell']) (by unfold maxLen; omega) (by omega) (by simp; omega) ?_; intro v' w1 hown' hgrow hwent; obtain ⟨g', cap', rfl⟩ := ownsRow_succ hown'; replace hwent : Went (W.alloc (.cells #[.int .i64 (first + (pre.length : Int))] 3)) v (.slice (some ⟨g', 0, none⟩) (pre.length + 1) cap') := hwent; replace hgrow : (W.alloc (.cells #[.int .i64 (first + (pre.length : Int))] 3)).grownBy w1 v.ownBlock := hgrow; obtain ⟨p1, p2, p3, p4, p5⟩ := hv.appended (by decide) (own_lowI hrow (B' := N) (by omega)) (by omega) (Nat.le_refl _) (own_lowI hown' (B' := N) (by omega)) hgrow; have hn1 := ((hn.alloc (.cells #[.int .i64 (first + (pre.length : Int))] 3)).kept hgrow (fun e => by have := own_blockI hrow _ e.symm; omega)).other (B' := N) (by omega) (.slice (some ⟨g', 0, none⟩) (pre.length + 1) cap'); have hc1 := p1.cell; have hf1 := p1.frozen; have hc2 := hn1.cell; have hf2 := hn1.frozen)
    have g3 := grownBy_setCell' (w1.setCell ⟨N, 0, none⟩ (.slice (some ⟨g', 0, none⟩) (pre.length + 1) cap')) (N + 1) (.int .i64 (first + (pre.length : Int) + 1))
    have hsz1 : W.heap.size ≤ w1.heap.size := by have := hgrow.size; simp at this; omega
    have hblk : ∀ k, k < W.heap.size → k ≠ N → k ≠ N + 1 → v.ownBlock ≠ some k → ((w1.setCell ⟨N, 0, none⟩ (.slice (some ⟨g', 0, none⟩) (pre.length + 1) cap')).setCell ⟨N + 1, 0, none⟩ (.int .i64 (first + (pre.length : Int) + 1))).heap[k]? = W.heap[k]? := by
      intro k hk h1 h2 h3
      rw [g3.block k (by simp; omega) (by simpa using h2), (grownBy_setCell' w1 N _).block k (by omega) (by simpa using h1), hgrow.block k (by simp; omega) (fun e => h3 e.symm)]
      exact (World.grownBy_alloc W _ none).block k hk (fun e => nomatch e)
    have p3' := (hown'.kept (grownBy_setCell' w1 N (.slice (some ⟨g', 0, none⟩) (pre.length + 1) cap')) (.inr (p1.not_row (by decide) hown').symm)).kept g3 (.inr (fun e => by have := own_blockI hown' _ e; omega))
    have hl1 : (pre ++ [first + (pre.length : Int)]).length = pre.length + 1 := by simp
    refine ⟨(p4.trans (KeepsOthers.setCell _ _ _)).from _, ⟨by simp; omega, fun k cs T fr hk h1 h2 h3 => hblk k (Array.getElem?_eq_some_iff.1 hk).1 h1 h2 (fun e => h3 ((ownN_of hv).trans e)), fun k hk => ?_⟩, ⟨⟨_, p2.other (by omega) _, ?_⟩, ?_, ?_, ?_⟩⟩
    · rw [ownN_of (p2.other (by omega) _)] at hk
      rcases hwent with e | e
      · exact .inl ((ownN_of hv).trans (e ▸ hk))
      · have := e k hk; simp at this; exact .inr (by omega)
    · rw [hl1, List.flatMap_append]; exact p3'
    · rw [hl1, show first + ((pre.length + 1 : Nat) : Int) = first + (pre.length : Int) + 1 by omega]; exact hn1.set _
    · refine (((HOB.out.gr (World.grownBy_alloc W _ none) (fun r e => nomatch e)).gr hgrow (fun r e => ?_)).gr (grownBy_setCell' w1 N _) (fun r e => ?_)).gr g3 (fun r e => ?_)
      · obtain ⟨cs, h3⟩ := row_block (hrow.alloc (.cells #[.int .i64 (first + (pre.length : Int))] 3)) e
        exact not_ty h3 int_off
      · cases e; exact not_ty (p1 : _ = _) (by decide)
      · cases e; exact not_ty (hn1 : _ = _) int_off
    · refine (((HBU.out.grown (World.grownBy_alloc W _ none) (fun r e => nomatch e)).grown hgrow (fun r e => ?_)).grown (grownBy_setCell' w1 N _) (fun r e => ?_)).grown g3 (fun r e => ?_)
      · have := own_blockI hrow _ e; omega
      · cases e; omega
      · cases e; omega
  case done =>
    rintro D ys W hDw hks ⟨⟨v, hv, hrow⟩, hn, hobj, hbut⟩ hdef
    have hys := HL.out.fil hks
    subst hys
    obtain ⟨ao, n, cap, rfl⟩ := own_slice hrow
    have cv := hv.cell
    have HROW := Lib.hid hrow; have HOB := Lib.hid hobj; have HBU := Lib.hid hbut; have HDF := Lib.hid hdef; have HV := Lib.hid hv
    clear hrow hobj hbut hn hks hdef
    go_wp2
    rw [Exit.noGoto_ret]
    refine ⟨by simp, .inl ⟨_, _, rfl, run_takeDeferred (w := W) HDF.out, ?_⟩⟩
    have hg := fun (o : Obj) => grownBy_putObj' W D o
    have hnt : ¬ TyS W D := noty_of HDF.out rfl rfl
    refine ⟨_, results_tmp rfl _ _ _, _, rfl, ?_, HOB.out.gr (hg _) (fun r e => by cases e; exact hnt), HBU.out.grown (hg _) (fun r e => by cases e; omega)⟩
    have h := ownsRow_putObj (W := W) (own_lowI HROW.out (B' := w.heap.size) (by omega)) (.deferred none) HDF.out rfl
    rw [segN_len, hwN] at h
    exact h
end Go.Proofs.YtfiplhnplmadmaaDoor

/- Package wal: here, Open, Append, Last, Read. Conditions: files of at most 2^43 bytes; at most 100000 segments. -/
namespace Go.Proofs.YtfiplhnplmadmaaDoor
open Go.RowKit Go.PlainAid Go.Shelf
set_option linter.unusedVariables false

theorem tab_butD {base : Nat} {w x : World} (h : Tab w) (hb : ButD base w x) (h0 : 0 < base) : Tab x := fun i hi => by
  have h1 := h i hi
  rw [← h1]; exact World.cell?_of_block (hb.block 0 (World.block_lt_of_cell? w _ h1) (fun hs => by have := hs.1; omega))
theorem dat_seg {fm : Int → Option FileM} {first : Int} {A : List WSeg} (h : Logs fm first A) {i : Nat} {y : WSeg} (hy : A[i]? = some y) : datF fm (first + (i : Int)) = y.b := by
  apply bytes_eq
  unfold datF
  rw [(h.2 i).2]; unfold bytA; rw [hy]; rfl
theorem hereA_snoc {first : Int} {A : List WSeg} {y : WSeg} (hy : A[A.length - 1]? = some y) (h0 : A ≠ []) : hereA first A = if fullS y = true then first + (A.length : Int) else first + ((A.length - 1 : Nat) : Int) := by
  unfold hereA atA
  rw [List.getLast?_eq_getElem?, hy]
  show first + (((if fullS y = true then A.length else A.length - 1) : Nat) : Int) = _
  split <;> rfl
/-- What is asked of a log to be read. -/
structure LogR (base d c : Nat) (s : DkS) (first : Int) (A : List WSeg) (w : World) : Prop where
  obj : DObj base w d c s
  c6 : c ≤ 1000000
  log : Logs s.fm first A
  fst : 1 ≤ first ∧ first ≤ 1073741824
  len : A.length ≤ 100000
  sz : ∀ y ∈ A, y.b.size ≤ 1000000000
  txt : (txtA A).length ≤ 1000000
  tab : Tab w
  b0 : 0 < base
theorem LogR.turn {base d c : Nat} {s : DkS} {first : Int} {A : List WSeg} {w x : World} (h : LogR base d c s first A w) (hD : DObj base x d c s) (hb : ButD base w x) : LogR base d c s first A x :=
  ⟨hD, h.c6, h.log, h.fst, h.len, h.sz, h.txt, tab_butD h.tab hb h.b0, h.b0⟩
theorem LogR.below {base d c : Nat} {s : DkS} {first : Int} {A : List WSeg} {w x : World} (h : LogR base d c s first A w) (hb : Below w.heap.size w x) : LogR base d c s first A x := h.turn (h.obj.call hb) (But.of_below hb)
set_option maxRecDepth 100000 in
set_option maxHeartbeats 2000000 in
theorem here_any {base d c : Nat} {s : DkS} (first : Int) (A : List WSeg) (w : World) (hR : LogR base d c s first A w) :
    Calls Tryd.prog 33 #[pt d 0, .int .i64 first] w fun e w' => e = .returned (.int .i64 (hereA first A)) ∧ DObj base w' d c s ∧ ButD base w w' := by
  have hlen := hR.len
  have HRR := Lib.hid hR; clear hR
  go_enter Tryd.func33, Tryd.ntmps33
  simp only [pt]
  go_wp2_with fail
  refine (segments_any first A w HRR.out.obj HRR.out.c6 HRR.out.log HRR.out.fst HRR.out.len).mono ?_
  rintro e w1 ⟨u, rfl, hrow, hD1, hb1⟩
  obtain ⟨ao, cap, rfl, hm, hat⟩ := row_view hrow
  have HR1 := Lib.hid (HRR.out.turn hD1 hb1); have HB1 := Lib.hid hb1
  clear hrow hD1 hb1
  have hf := HRR.out.fst
  obtain ⟨fst1, fst2⟩ := hf
  by_cases h0 : A = []
  · subst h0
    have HAT := Lib.hid hat; clear hat
    go_wp2
    go_ret
    exact ⟨ret_int (by simp [hereA, atA]), HR1.out.obj, HB1.out⟩
  · have hpos : 0 < A.length := List.length_pos_iff.2 h0
    obtain ⟨y, hy⟩ : ∃ y, A[A.length - 1]? = some y := ⟨_, List.getElem?_eq_getElem (by omega)⟩
    obtain ⟨g, rfl, -, hg⟩ := hat (A.length - 1) (by omega)
    rw [flat_ints, List.getElem?_map, segN_get _ _ _ (by omega)] at hg
    replace hg : w1.cell? ⟨g, A.length - 1, none⟩ = some (.int .i64 (first + ((A.length - 1 : Nat) : Int))) := hg
    have hne : ((A.length : Int) == 0) = false := by simp; omega
    have e1 : (A.length : Int) - 1 = ((A.length - 1 : Nat) : Int) := by omega
    have hyb := HRR.out.sz y (List.mem_of_getElem? hy)
    obtain ⟨p, hp⟩ : ∃ p : Int, p = first + ((A.length - 1 : Nat) : Int) := ⟨_, rfl⟩
    rw [← hp] at hg
    have HY := Lib.hid hy; have HP := Lib.hid hp; have H0 := Lib.hid h0; have HAT := Lib.hid hat; have HA := Lib.hid hlen
    have hp1 : p ≤ 2000000000 := by omega
    have hp2 : 0 ≤ p := by omega
    clear hy hp h0 hat
    have hdat : datF s.fm p = y.b := by rw [HP.out]; exact dat_seg HRR.out.log HY.out
    have hhere := hereA_snoc (first := first) HY.out H0.out
    have HDT := Lib.hid hdat; have HH := Lib.hid hhere
    clear hdat hhere hyb hlen
    go_wp2_with fail
    clear e1 hne
    refine (tData w1 p HR1.out.obj).mono ?_
    rintro e w2 ⟨rfl, hD2, hb2⟩
    rw [HDT.out]
    have HR2 := Lib.hid (HR1.out.turn hD2 hb2); have HB2 := Lib.hid (butD_tr HB1.out hb2)
    have hyb := HRR.out.sz y (List.mem_of_getElem? HY.out)
    have hS := seg_all (HRR.out.log.1 y (List.mem_of_getElem? HY.out))
    obtain ⟨B, hB⟩ : ∃ B, B = y.b := ⟨_, rfl⟩
    obtain ⟨cQ, hcQ⟩ : ∃ cQ : Int, cQ = if y.q.size = 0 then 0 else 2 := ⟨_, rfl⟩
    rw [← hB] at hyb hS ⊢
    rw [← hcQ] at hS
    have hE : hereA first A = if 256 ≤ B.size ∨ cQ ≠ 0 then p + 1 else p := by
      rw [HH.out]
      have e2 : (fullS y = true) ↔ (256 ≤ B.size ∨ cQ ≠ 0) := by
        unfold fullS; rw [Bool.or_eq_true, decide_eq_true_iff, decide_eq_true_iff, hB, hcQ]
        by_cases hq : y.q.size = 0
        · rw [if_pos hq]; simp [hq]
        · rw [if_neg hq]; simp [hq]
      by_cases hf : fullS y = true
      · rw [if_pos hf, if_pos (e2.1 hf), HP.out]; omega
      · rw [if_neg hf, if_neg (fun h => hf (e2.2 h)), HP.out]
    have HE := Lib.hid hE; have HS := Lib.hid hS; have HSZ := Lib.hid hyb
    clear hD2 hb2 hB hcQ hyb hS hE
    by_cases hbig : (256 : Int) ≤ (B.size : Int)
    · have hb1 : decide ((256 : Int) ≤ (B.size : Int)) = true := decide_eq_true hbig
      go_wp2
      go_ret
      exact ⟨ret_int (by rw [HE.out, if_pos (.inl (by omega))]), HR2.out.obj, HB2.out⟩
    · have hb1 : decide ((256 : Int) ≤ (B.size : Int)) = false := decide_eq_false hbig
      go_wp2_with fail
      have hyb := HSZ.out
      refine (all_any B w2 HR2.out.tab (by omega)).mono ?_
      rintro e w3 ⟨v, l, b, c3, rfl, hAll, hrow3, hb3⟩
      obtain ⟨-, -, hc3⟩ := run_det hAll.1 hAll.2 HS.out.1 HS.out.2
      subst hc3
      have HR3 := Lib.hid (HR2.out.below hb3); have HB3 := Lib.hid (butD_tr HB2.out (But.of_below hb3)); have HBG := Lib.hid hbig
      clear hAll hrow3 hb3 hyb hb1 hbig
      by_cases hq : c3 = 0
      · subst hq
        go_wp2
        go_ret
        exact ⟨ret_int (by rw [HE.out, if_neg (by have := HBG.out; omega)]), HR3.out.obj, HB3.out⟩
      · have hne : (c3 != 0) = true := by simpa using hq
        have HQ := Lib.hid hq; clear hq
        go_wp2
        go_ret
        exact ⟨ret_int (by rw [HE.out, if_pos (.inr HQ.out)]), HR3.out.obj, HB3.out⟩
end Go.Proofs.YtfiplhnplmadmaaDoor

/- Package wal: Open. Conditions: as for here. -/
namespace Go.Proofs.YtfiplhnplmadmaaDoor
open Go.RowKit Go.PlainAid Go.Shelf
set_option linter.unusedVariables false
theorem strE_oneW (z : ByteArray) : ∀ u ∈ strE z, u.oneCell' = true := by intro u hu; simp [strE] at hu; subst hu; rfl
theorem txtA_take {A : List WSeg} {i : Nat} {y : WSeg} (h : A[i]? = some y) : txtA (A.take (i + 1)) = txtA (A.take i) ++ y.T := by
  unfold txtA; rw [List.take_add_one, h]; simp
theorem txtA_len {A : List WSeg} {i : Nat} : (txtA (A.take i)).length ≤ (txtA A).length := by
  conv => rhs; rw [← List.take_append_drop i A]
  unfold txtA; rw [List.flatMap_append, List.length_append]; omega
set_option maxRecDepth 100000 in
set_option maxHeartbeats 4000000 in
theorem wopen_any {base d c : Nat} {s : DkS} (first : Int) (A : List WSeg) (w : World) (hR : LogR base d c s first A w) :
    Calls Tryd.prog 11 #[pt d 0, .int .i64 first] w fun e w' => ∃ (N : Nat) (u : Value), e = .returned (.tuple #[pt N 0, u, .int .i64 0]) ∧ Blk w' N 41 #[.bool true, pt d 0, .int .i64 first] ∧ w'.ownsRow w.heap.size 9 1 u (txtA A).length ((txtA A).flatMap strE) ∧ DObj base w' d c s ∧ ButD base w w' := by
  have hlen := hR.len; have htx := hR.txt
  obtain ⟨fst1, fst2⟩ := hR.fst
  obtain ⟨i0, hinf, hz0, hz1, hz2⟩ := info_parts info_strI
  have HRR := Lib.hid hR; clear hR
  go_enter Tryd.func11, Tryd.ntmps11
  simp only [pt]
  go_wp2_with fail
  refine (segments_any first A w HRR.out.obj HRR.out.c6 HRR.out.log HRR.out.fst HRR.out.len).mono ?_
  rintro e w1 ⟨u, rfl, hrow, hD1, hb1⟩
  obtain ⟨ao, cap, rfl, hm, hat⟩ := row_view hrow
  have HR1 := Lib.hid (HRR.out.turn hD1 hb1); have HB1 := Lib.hid hb1; have HROW := Lib.hid hrow
  clear hrow hD1 hb1 hat
  go_wp2_with fail
  go_loopg [7, 27] (A.length + 1) (fun g s7 s27 wr => ∃ i : Nat, s27 = .int .i64 i ∧ i ≤ A.length ∧ A.length + 1 ≤ i + g ∧ Hid (wr.ownsRow w.heap.size 9 1 s7 (txtA (A.take i)).length ((txtA (A.take i)).flatMap strE)) ∧ Hid (wr.ownsRow w.heap.size 3 1 (.slice ao A.length cap) A.length ((segN first A.length).flatMap (intE .i64))) ∧ Hid (LogR base d c s first A wr) ∧ Hid (ButD base w wr))
  case atStart => exact ⟨0, rfl, by omega, by omega, Lib.hid (World.ownsRow_nil _ _ _ _), HROW, HR1, HB1⟩
  case round =>
    obtain ⟨i, rfl, hi, hg, HT, HN, HL, HB⟩ := hrel
    by_cases hlt : i < A.length
    · obtain ⟨y, hy⟩ : ∃ y, A[i]? = some y := ⟨_, List.getElem?_eq_getElem hlt⟩
      obtain ⟨ao', c', e, -, hat⟩ := row_view HN.out
      cases e
      obtain ⟨g2, rfl, -, hg2⟩ := hat i hlt
      rw [flat_ints, List.getElem?_map, segN_get _ _ _ hlt] at hg2
      replace hg2 : wr.cell? ⟨g2, i, none⟩ = some (.int .i64 (first + (i : Int))) := hg2
      obtain ⟨p, hp⟩ : ∃ p : Int, p = first + (i : Int) := ⟨_, rfl⟩
      rw [← hp] at hg2
      have hdat : datF s.fm p = y.b := by rw [hp]; exact dat_seg HRR.out.log hy
      have hyb := HRR.out.sz y (List.mem_of_getElem? hy)
      have HDT := Lib.hid hdat; have HY := Lib.hid hy; have HP := Lib.hid hp; have HAT := Lib.hid hat
      clear hdat hy hp hat
      go_wp2_with fail
      refine (tData wr p HL.out.obj).mono ?_
      rintro e w2 ⟨rfl, hD2, hb2⟩
      rw [HDT.out]
      have HL2 := Lib.hid (HL.out.turn hD2 hb2); have HB2 := Lib.hid (butD_tr HB.out hb2); have HT2 := Lib.hid (rowD HT.out (by decide) hb2); have HN2 := Lib.hid (rowD HN.out int_off hb2)
      clear hD2 hb2
      go_wp2_with fail
      refine (all_any y.b w2 HL2.out.tab (by omega)).mono ?_
      rintro e w3 ⟨v, l, b, c3, rfl, hAll, hrow3, hb3⟩
      have hS := seg_all (HRR.out.log.1 y (List.mem_of_getElem? HY.out))
      obtain ⟨hl3, -, -⟩ := run_det hAll.1 hAll.2 hS.1 hS.2
      subst hl3
      have HL3 := Lib.hid (HL2.out.below hb3); have HB3 := Lib.hid (butD_tr HB2.out (But.of_below hb3)); have HT3 := Lib.hid (row_below HT2.out hb3); have HN3 := Lib.hid (row_below HN2.out hb3)
      have htk := txtA_take HY.out
      have htl := txtA_len (A := A) (i := i + 1)
      have hsz3 := HB3.out.size
      have HTK := Lib.hid htk; have HROW3 := Lib.hid hrow3
      rw [htk, List.length_append] at htl
      clear hAll hS hb3 htk hrow3
      obtain ⟨a7, n7, c7, rfl⟩ := own_slice HT3.out
      obtain ⟨a8, n8, c8, rfl⟩ := own_slice HROW3.out
      go_wp2_with (at_builtin; go_loud (refine wpList_append_src rfl (.tmp 39) (.tmp 40) 28 rfl w.heap.size 9 i0 (.string ⟨#[]⟩) 1 16 Tryd.underlying28 hinf hz0 hz1 hz2 rfl (by decide) (.slice a7 n7 c7) (txtA (A.take i)).length ((txtA (A.take i)).flatMap strE) rfl HT3.out strE y.T (.slice a8 n8 c8) rfl (SliceOf.own HROW3.out (fun _ _ => rfl)) (fun z _ => ⟨rfl, strE_oneW z⟩) (by unfold maxLen; omega) (by omega) (by omega) ?_); intro v' w4 hown' hgrow)
      have hD4 := HL3.out.obj.row HT3.out (by decide) hgrow
      have hB4 : ButD base w w4 := HB3.out.grown hgrow (fun r e => own_blockI HT3.out _ e)
      have HB4 := Lib.hid hB4; have HL4 := Lib.hid (HRR.out.turn hD4 hB4); have HN4 := Lib.hid (row_kept_row HN3.out HT3.out hgrow (by decide))
      have HT4 : Hid (w4.ownsRow w.heap.size 9 1 v' (txtA (A.take (i + 1))).length ((txtA (A.take (i + 1))).flatMap strE)) := Lib.hid (by rw [HTK.out, List.length_append, List.flatMap_append]; exact hown')
      clear hD4 hB4 hgrow hown'
      go_roundg (gk - 1)
      case rel => exact ⟨i + 1, by go_num, by omega, by omega, HT4, HN4, HL4, HB4⟩
      case measure => omega
    · have hq : i = A.length := by omega
      subst hq
      rw [List.take_length] at HT
      have hb := HB.out
      obtain ⟨ao2, n2, cap2, rfl⟩ := own_slice HT.out
      go_wp2
      go_ret3
      have hg := World.grownBy_alloc wr (.cells #[.bool true, .pointer (some ⟨d, 0, none⟩), .int .i64 first] 41) none
      exact ⟨_, _, rfl, World.alloc_heap_new wr _, row_kept_new HT.out hg, HL.out.obj.new hg, HB.out.grown hg (fun r e => nomatch e)⟩
theorem Blk.grW {w x : World} {N : Nat} {T : TypeId} {cs : Array Value} (h : Blk w N T cs) (hT : offD T) {base : Nat} (hb : ButD base w x) : Blk x N T cs := blkD h hT hb
end Go.Proofs.YtfiplhnplmadmaaDoor

/- Package wal: a disk that bears a log, as one object; what calls make of it. Conditions: at most 900 calls. -/
namespace Go.Proofs.YtfiplhnplmadmaaDoor
open Go.RowKit Go.PlainAid Go.Shelf
set_option linter.unusedVariables false

theorem nodup_le : ∀ {l K : List Int}, l.Nodup → (∀ a ∈ l, a ∈ K) → l.length ≤ K.length
  | [], K, _, _ => Nat.zero_le _
  | a :: r, K, hn, hs => by
    obtain ⟨h1, h2⟩ := List.nodup_cons.1 hn
    have ha := hs a (List.mem_cons_self ..)
    have h3 := nodup_le (K := K.erase a) h2 (fun b hb => (List.mem_erase_of_ne (fun e => h1 (by rw [← e]; exact hb))).2 (hs b (List.mem_cons_of_mem _ hb)))
    have h4 := List.length_erase_of_mem ha
    have h5 : 0 < K.length := List.length_pos_iff.2 (List.ne_nil_of_mem ha)
    rw [List.length_cons]; omega
theorem DObj.tight {base d c : Nat} {s : DkS} {w : World} (h : DObj base w d c s) {K : List Int} (hK : ∀ k, (s.fm k).isSome = true → k ∈ K) : DObj base w d K.length s := by
  obtain ⟨M, pv, g, c', hc, hP⟩ := h
  refine ⟨M, pv, g, K.length, Nat.le_refl _, { hP with map := ?_ }⟩
  obtain ⟨l, h1, h2, h3⟩ := hP.map
  refine ⟨l, h1, h2, ?_⟩
  have hnd : (l.map (·.1)).Nodup := h1.keys
  have h4 := nodup_le (K := K) hnd (fun a ha => by
    obtain ⟨p, hp, rfl⟩ := List.mem_map.1 ha
    have h5 := (getK_mem l p.1 p.2 hnd).2 hp
    rw [h2] at h5
    refine hK _ ?_
    rw [← hP.rel p.1]
    cases hg : g p.1 with
    | none => rw [hg] at h5; cases h5
    | some f => rfl)
  rwa [List.length_map] at h4
theorem run_len (xs : List ByteArray) (A : List WSeg) : (xs.foldl appA A).length ≤ A.length + xs.length := by
  induction xs generalizing A with
  | nil => simp
  | cons x r ih =>
    rw [List.foldl_cons, List.length_cons]
    have h1 := ih (appA A x)
    have h2 : (appA A x).length ≤ A.length + 1 := by unfold appA; rw [putA_len]; split <;> omega
    omega
theorem OnD.keys {fm : Int → Option FileM} {first : Int} {A C : List WSeg} (h : OnD fm first A C) : ∀ k, (fm k).isSome = true → k ∈ segN first A.length := fun k hk => by
  rw [h k] at hk; unfold flW at hk
  rw [segN_mem]
  by_cases hl : first ≤ k
  · rw [if_pos hl] at hk
    by_cases hs : (A[(k - first).toNat]?).isSome = true
    · have := (List.getElem?_eq_some_iff.1 (Option.isSome_iff_exists.1 hs).choose_spec).1; omega
    · rw [if_neg hs] at hk; cases hk
  · rw [if_neg hl] at hk; cases hk
/-- A disk that bears just a log: A's segments are safe, xs came since; m calls at most. -/
def WlO (base : Nat) (w : World) (d m : Nat) (first : Int) (A : List WSeg) (xs : List ByteArray) : Prop :=
  ∃ s, DObj base w d (xs.foldl appA A).length s ∧ WSt s first A xs ∧ DkI s m ∧ 0 ≤ s.boots ∧ s.boots ≤ (m : Int) + 1 ∧ A.length + xs.length ≤ m ∧ (txtA A).length + xs.length ≤ m ∧ 1 ≤ first ∧ first ≤ 1000000000
section
variable {base d m N : Nat} {n0 : Int} {first : Int} {A : List WSeg} {xs : List ByteArray} {w x : World}
theorem WlO.new (h : WlO base w d m first A xs) (hg : w.grownBy x none) : WlO base x d m first A xs := by obtain ⟨s, h1, h2⟩ := h; exact ⟨s, h1.new hg, h2⟩
theorem WlO.call (h : WlO base w d m first A xs) (hb : Below w.heap.size w x) : WlO base x d m first A xs := by obtain ⟨s, h1, h2⟩ := h; exact ⟨s, h1.call hb, h2⟩
theorem WlO.at {T : TypeId} {cs : Array Value} (h : WlO base w d m first A xs) (hb : Blk w N T cs) (hT : offD T) (hg : w.grownBy x (some N)) : WlO base x d m first A xs := by obtain ⟨s, h1, h2⟩ := h; exact ⟨s, h1.at hb hT hg, h2⟩
theorem WlO.row {B sz k : Nat} {e : TypeId} {v : Value} {ys : List Value} (h : WlO base w d m first A xs) (hr : w.ownsRow B e sz v k ys) (hT : offD e) (hg : w.grownBy x v.ownBlock) : WlO base x d m first A xs := by obtain ⟨s, h1, h2⟩ := h; exact ⟨s, h1.row hr hT hg, h2⟩
theorem WlO.up {m' : Nat} (h : WlO base w d m first A xs) (hm : m ≤ m') : WlO base w d m' first A xs := by
  obtain ⟨s, h1, h2, h3, h4, h5, h6, h7, h8⟩ := h; exact ⟨s, h1, h2, h3.up hm, h4, by omega, by omega, by omega, h8⟩
theorem WlO.eq {A' : List WSeg} {xs' : List ByteArray} (h : WlO base w d m first A xs) (e1 : A = A') (e2 : xs = xs') : WlO base w d m first A' xs' := by subst e1 e2; exact h
theorem WlO.len (h : WlO base w d m first A xs) : A.length + xs.length ≤ m ∧ (txtA A).length + xs.length ≤ m := by obtain ⟨s, h1, h2, h3, h4, h5, h6, h7, h8⟩ := h; exact ⟨h6, h7⟩
def WlX (base : Nat) (w : World) (d m : Nat) (first : Int) (A : List WSeg) (xs : List ByteArray) (s : DkS) : Prop :=
  DObj base w d (xs.foldl appA A).length s ∧ WSt s first A xs ∧ DkI s m ∧ 0 ≤ s.boots ∧ s.boots ≤ (m : Int) + 1 ∧ A.length + xs.length ≤ m ∧ (txtA A).length + xs.length ≤ m ∧ 1 ≤ first ∧ first ≤ 1000000000
theorem WlX.logR {s : DkS} (h : WlX base w d m first A xs s) (hm : m ≤ 900) (ht : Tab w) (hb : 0 < base) : LogR base d (xs.foldl appA A).length s first (xs.foldl appA A) w ∧ hereA first (xs.foldl appA A) ≤ first + (m : Int) := by
  obtain ⟨h1, h2, h3, h4, h5, h6, h7, h8, h9⟩ := h
  have hl := run_len xs A
  refine ⟨⟨h1, by omega, h2.logs, ⟨h8, by omega⟩, by omega, fun y hy => ?_, ?_, ht, hb⟩, ?_⟩
  · obtain ⟨i, hi⟩ := List.getElem?_of_mem hy
    have h10 := h3.len (first + (i : Int))
    rw [((h2.logs).2 i).2] at h10
    unfold bytA at h10
    rw [hi] at h10
    have h11 : ((y.b.data.toList.length : Nat) : Int) ≤ m * 1048576 := h10
    rw [list_len] at h11
    omega
  · rw [txt_run, List.length_append]; omega
  · have := at_le (xs.foldl appA A); unfold hereA; omega
theorem here_ok (h1 : 1 ≤ first) (h : hereA first A ≤ 1073741824) : wrE (hereA first A) = 0 := by
  unfold wrE; rw [if_neg]; unfold hereA at h ⊢; omega
theorem wlNew (base : Nat) (first : Int) (w : World) (hb : base ≤ w.heap.size) (hf : 1 ≤ first ∧ first ≤ 1000000000) : Calls Tryd.prog 10 #[] w fun e w' => ∃ N, e = .returned (pt N 0) ∧ WlO base w' N 0 first [] [] ∧ Below w.heap.size w w' :=
  (tNew base w hb).mono fun e x ⟨N, h1, h2, h3⟩ => ⟨N, h1, ⟨s0D, h2, ⟨fun k => by unfold flW; simp [s0D], rfl, (fun y hy => by cases hy), (fun y hy => by cases hy)⟩, s0_I, by decide, by decide, Nat.le_refl _, Nat.le_refl _, hf⟩, h3⟩
theorem wlOpen (w : World) (h : WlO base w d m first A xs) (hm : m ≤ 900) (ht : Tab w) (hb : 0 < base) : Calls Tryd.prog 11 #[pt d 0, .int .i64 first] w fun e w' => ∃ (N : Nat) (u : Value), e = .returned (.tuple #[pt N 0, u, .int .i64 0]) ∧ Blk w' N 41 #[.bool true, pt d 0, .int .i64 first] ∧ w'.ownsRow w.heap.size 9 1 u (txtA A ++ xs).length ((txtA A ++ xs).flatMap strE) ∧ WlO base w' d m first A xs ∧ ButD base w w' := by
  obtain ⟨s, hX⟩ := h
  have hX : WlX base w d m first A xs s := hX
  obtain ⟨hR, -⟩ := hX.logR hm ht hb
  refine (wopen_any first _ w hR).mono ?_
  rintro e x ⟨N, u, k1, k2, k3, k4, k5⟩
  rw [txt_run] at k3
  exact ⟨N, u, k1, k2, k3, ⟨s, k4, hX.2⟩, k5⟩
theorem wlHere (w : World) (h : WlO base w d m first A xs) (hm : m ≤ 900) (ht : Tab w) (hb : 0 < base) : Calls Tryd.prog 33 #[pt d 0, .int .i64 first] w fun e w' => e = .returned (.int .i64 (hereA first (xs.foldl appA A))) ∧ WlO base w' d m first A xs ∧ ButD base w w' := by
  obtain ⟨s, hX⟩ := h
  have hX : WlX base w d m first A xs s := hX
  obtain ⟨hR, -⟩ := hX.logR hm ht hb
  exact (here_any first _ w hR).mono fun e x ⟨k1, k2, k3⟩ => ⟨k1, ⟨s, k2, hX.2⟩, k3⟩
theorem frameB_le {t : ByteArray} (ht : t.size ≤ 65536) : (frameB t).size ≤ 65600 := by
  have h1 := numB_size t
  have h2 : (frameB t).size = (numB t).size + 4 + t.size := by
    unfold frameB; rw [bsz_app, bsz_app]; rfl
  omega
theorem wlWrite (w : World) (t : ByteArray) (h : WlO base w d m first A xs) (hm : m ≤ 800) (ht : t.size ≤ 65536) : Calls Tryd.prog 28 #[pt d 0, .int .i64 (hereA first (xs.foldl appA A)), .string (frameB t)] w fun e w' => e = .returned (.int .i64 0) ∧ WlO base w' d (m + 1) first A (xs ++ [t]) ∧ ButD base w w' := by
  obtain ⟨s, h1, h2, h3, h4, h5, h6, h7, h8, h9⟩ := h
  have hfr := frameB_le ht
  have hh : hereA first (xs.foldl appA A) ≤ first + (m : Int) := by have := at_le (xs.foldl appA A); have := run_len xs A; unfold hereA; omega
  have hw := here_ok h8 (A := xs.foldl appA A) (by omega)
  refine (tWrite w (hereA first (xs.foldl appA A)) (frameB t) h1 (h3.hsz (by omega) _ (by omega)) (h3.hpl (by omega))).mono ?_
  rintro e x ⟨k1, k2, k3⟩
  rw [hw] at k1
  have h2' := h2.write ht hw
  have hk := k2.tight (h2'.on.keys)
  rw [segN_len] at hk
  refine ⟨k1, ⟨_, hk, h2', h3.write _ _ (by omega), ?_, ?_, by simp; omega, by simp; omega, h8, h9⟩, k3⟩
  · unfold wrS; split <;> exact h4
  · have : (wrS s (hereA first (xs.foldl appA A)) (frameB t)).boots = s.boots := by unfold wrS; split <;> rfl
    rw [this]; omega
end
end Go.Proofs.YtfiplhnplmadmaaDoor

/- Package wal: Append, Last, Read on a log. Conditions: at most 800 calls. -/
namespace Go.Proofs.YtfiplhnplmadmaaDoor
open Go.RowKit Go.PlainAid Go.Shelf
set_option linter.unusedVariables false
section
variable {base d m N : Nat} {first : Int} {A : List WSeg} {xs : List ByteArray} {w x : World}
set_option maxRecDepth 100000 in
set_option maxHeartbeats 4000000 in
theorem wlLast (w : World) (hW : Blk w N 41 #[.bool true, pt d 0, .int .i64 first]) (h : WlO base w d m first A xs) (hm : m ≤ 900) (ht : Tab w) (hb : 0 < base) : Calls Tryd.prog 17 #[pt N 0] w fun e w' => e = .returned (.int .i64 (hereA first (xs.foldl appA A))) ∧ WlO base w' d m first A xs ∧ ButD base w w' := by
  have c0 := hW.cell (k := 0) rfl; have c1 : w.cell? ⟨N, 1, none⟩ = some (.pointer (some ⟨d, 0, none⟩)) := hW.cell (k := 1) rfl; have c2 := hW.cell (k := 2) rfl
  have HO := Lib.hid h; have HT := Lib.hid ht; have HM := Lib.hid hm
  clear h ht hW hm
  go_enter Tryd.func17, Tryd.ntmps17
  simp only [pt]
  go_wp2_with fail
  go_region_law (first | (go_simp; go_at_call 33; refine (wlHere _ (HO.out.new (drew_grown _)) HM.out (HT.out.below (grown_below (drew_grown _))) hb).mono ?_; rintro e w2 ⟨rfl, h2, hb2⟩))
  all_goals (go_wp2; go_ret; exact ⟨rfl, h2, butD_tr (But.of_below (grown_below (drew_grown _))) hb2⟩)
set_option maxRecDepth 100000 in
set_option maxHeartbeats 4000000 in
theorem wlRead (w : World) (h : WlO base w d m first A xs) (hm : m ≤ 900) (ht : Tab w) (hb : 0 < base) : Calls Tryd.prog 16 #[pt d 0, .int .i64 first] w fun e w' => ∃ u, e = .returned (.tuple #[u, .int .i64 (hereA first (xs.foldl appA A))]) ∧ w'.ownsRow w.heap.size 9 1 u (txtA A ++ xs).length ((txtA A ++ xs).flatMap strE) ∧ WlO base w' d m first A xs ∧ ButD base w w' := by
  have HO := Lib.hid h; have HT := Lib.hid ht; have HM := Lib.hid hm
  clear h ht hm
  go_enter Tryd.func16, Tryd.ntmps16
  simp only [pt]
  go_wp2_with fail
  refine (wlOpen w HO.out HM.out HT.out hb).mono ?_
  rintro e w1 ⟨N, u, rfl, hW, hr, h1, hb1⟩
  have HW := Lib.hid hW; have HR := Lib.hid hr; have H1 := Lib.hid h1; have HB1 := Lib.hid hb1
  clear hW hr h1 hb1
  go_wp2_with fail
  refine (wlLast w1 HW.out H1.out HM.out (tab_butD HT.out HB1.out hb) hb).mono ?_
  rintro e w2 ⟨rfl, h2, hb2⟩
  have HR2 := Lib.hid (rowD HR.out (by decide) hb2); have H2 := Lib.hid h2; have HB2 := Lib.hid (butD_tr HB1.out hb2)
  clear h2 hb2
  go_wp2
  go_ret2
  exact ⟨_, rfl, HR2.out, H2.out, HB2.out⟩
set_option maxRecDepth 100000 in
set_option maxHeartbeats 4000000 in
theorem wlAppend (w : World) (t : ByteArray) (hW : Blk w N 41 #[.bool true, pt d 0, .int .i64 first]) (h : WlO base w d m first A xs) (hm : m ≤ 800) (ht : Tab w) (hb : 0 < base) (hsz : t.size ≤ 65536) : Calls Tryd.prog 12 #[pt N 0, .string t] w fun e w' => e = .returned (.int .i64 0) ∧ WlO base w' d (m + 1) first A (xs ++ [t]) ∧ ButD base w w' := by
  have c0 := hW.cell (k := 0) rfl; have c1 : w.cell? ⟨N, 1, none⟩ = some (.pointer (some ⟨d, 0, none⟩)) := hW.cell (k := 1) rfl; have c2 := hW.cell (k := 2) rfl
  have HO := Lib.hid h; have HT := Lib.hid ht; have HM := Lib.hid hm; have HW := Lib.hid hW
  clear h ht hW hm
  go_enter Tryd.func12, Tryd.ntmps12
  simp only [pt]
  go_wp2_with fail
  refine (put_frame t w HT.out (by omega)).mono ?_
  rintro e w1 ⟨rfl, hb1⟩
  have e1 : putR t = (frameB t, 0) := by unfold putR; rw [if_neg (by omega)]
  rw [e1]; unfold putV
  have HB1 := Lib.hid hb1; have H1 := Lib.hid (HO.out.call hb1); have HT1 := Lib.hid (HT.out.below hb1)
  have hW1 := HW.out.below hb1
  have d1 := hW1.cell (k := 1) rfl; have d2 := hW1.cell (k := 2) rfl
  simp only [pt] at d1
  have HW1 := Lib.hid hW1
  clear hb1 e1 hW1 c0 c1 c2
  dsimp only
  go_wp2_with fail
  go_region_law (first | (go_simp; go_at_call 33; refine (wlHere _ (H1.out.new (drew_grown _)) (by have := HM.out; omega) (HT1.out.below (grown_below (drew_grown _))) hb).mono ?_; rintro e w2 ⟨rfl, h2, hb2⟩; have HW2 := HW1.out.below (grown_below (drew_grown _)); have hq := Blk.grW HW2 (by decide) hb2; have k1 := hq.cell (k := 1) rfl; have k2 := hq.cell (k := 2) rfl; simp only [pt] at k1; have H2 := Lib.hid h2; have HB2 := Lib.hid hb2; clear h2 hb2 hq HW2) | (go_simp; go_at_call 28; refine (wlWrite _ t H2.out HM.out hsz).mono ?_; rintro e w3 ⟨rfl, h3, hb3⟩))
  all_goals (go_wp2; go_ret; exact ⟨rfl, h3, butD_tr (butD_tr (But.of_below HB1.out) (butD_tr (But.of_below (grown_below (drew_grown _))) HB2.out)) hb3⟩)
end
end Go.Proofs.YtfiplhnplmadmaaDoor

/- catenalaw12: short, awake; lists of texts that read alike. Conditions: a laid table. -/
namespace Go.Proofs.YtfiplhnplmadmaaDoor
open Go.RowKit Go.PlainAid
set_option linter.unusedVariables false
set_option linter.unusedSimpArgs false


theorem strE_lenW (y : ByteArray) : (strE y).length = 1 := rfl
/-- A call of stage 12. -/
structure WActT where
  k : Int
  s : ByteArray
  n : Int
  file : Int
instance : Inhabited WActT := ⟨⟨0, ⟨#[]⟩, 0, 0⟩⟩
def aW : ByteArray := ⟨#[97]⟩
theorem aw_A : (([] : List ByteArray) ++ [aW]).foldl appA ([] : List WSeg) = [⟨[aW], ⟨#[]⟩⟩] := by rfl
theorem aw_here : hereA 1 ((([] : List ByteArray) ++ [aW]).foldl appA ([] : List WSeg)) = 1 := by
  rw [aw_A]
  unfold hereA atA
  have hs : (WSeg.mk [aW] ⟨#[]⟩).b.size ≤ 20 := by
    unfold WSeg.b
    rw [bapp_nil]
    have e : catF [aW] = (⟨#[]⟩ : ByteArray) ++ frameB aW := rfl
    rw [e, bsz_app]
    have h1 := numB_size aW
    have h2 : (frameB aW).size = (numB aW).size + 4 + aW.size := by unfold frameB; rw [bsz_app, bsz_app]; rfl
    have h3 : aW.size = 1 := rfl
    have h4 : (⟨#[]⟩ : ByteArray).size = 0 := rfl
    omega
  have hf : fullS ⟨[aW], ⟨#[]⟩⟩ = false := by
    unfold fullS; rw [decide_eq_false (by omega)]; rfl
  show 1 + (((if fullS ⟨[aW], ⟨#[]⟩⟩ = true then 1 else 1 - 1 : Nat)) : Int) = 1
  rw [hf]; rfl
theorem aw_hereL : hereA 1 ((([] : List ByteArray) ++ [(⟨#[97]⟩ : ByteArray)]).foldl appA ([] : List WSeg)) = 1 := aw_here
theorem aw_get {y : ByteArray} (h : (txtA ([] : List WSeg) ++ (([] : List ByteArray) ++ [(⟨#[97]⟩ : ByteArray)]))[0]? = some y) : y = ⟨#[97]⟩ := by
  simp [txtA] at h; exact h.symm

set_option maxRecDepth 100000 in
set_option maxHeartbeats 3200000 in
theorem awake12  (w : World) (ht : Tab w) :
    Calls Tryd.prog 9 #[] w fun e w' => e = .returned (.bool true) ∧ Below w.heap.size w w' := by
 have hB0 := Below.refl w.heap.size w
 refine co_enter (n := 53) Tryd.func9 rfl rfl rfl [] rfl (fun a h0 => ?_)
 refine co_seq ?_
 refine co_reg ?_
 refine pk0 (v := .bool false) h0 rfl fun a1 h1 => ?_; clear h0
 refine pl_nil ?_
 refine co_then ?_
 refine co_seq ?_
 refine co_reg ?_
 refine pw h1 rfl (op_call (args := #[]) (R := fun res xw => ∃ N, res = pt N 0 ∧ WlO w.heap.size xw N 0 1 [] [] ∧ Below w.heap.size w xw) rfl rfl rfl (by kernel_rfl) (by kernel_rfl) (Tryd.call10 _ _) (wlNew w.heap.size 1 w (by omega) (by omega)) (by rintro e x ⟨N, rfl, h1, h2⟩; exact ⟨_, rfl, N, rfl, h1, h2⟩)) ?_; clear h1
 rintro _ w3 a2 ⟨N6, rfl, hd4, hb7⟩ h2
 have hz8 := hb7.size
 refine pk0 (v := pt N6 0) h2 rfl fun a9 h9 => ?_; clear h2
 refine pl_nil ?_
 refine co_then ?_
 refine co_seq ?_
 refine co_reg ?_
 refine pk0 (v := pt N6 0) h9 rfl fun a10 h10 => ?_; clear h9
 have hB15 := hb_call hB0 hb7
 refine pw h10 rfl (op_call (args := #[pt N6 0, .int .i64 1]) (R := fun res xw => ∃ (N : Nat) (u : Value), res = .tuple #[pt N 0, u, .int .i64 0] ∧ Blk xw N 41 #[.bool true, pt N6 0, .int .i64 1] ∧ xw.ownsRow w3.heap.size 9 1 u (txtA ([] : List WSeg) ++ ([] : List ByteArray)).length ((txtA ([] : List WSeg) ++ ([] : List ByteArray)).flatMap strE) ∧ WlO w.heap.size xw N6 0 1 ([] : List WSeg) ([] : List ByteArray) ∧ ButD w.heap.size w3 xw) rfl rfl rfl (by kernel_rfl) (by kernel_rfl) (Tryd.call11 _ _) (wlOpen w3 hd4 (by omega) (ht.below hB15) (tab_pos ht)) (by rintro e x ⟨N, u, rfl, h⟩; exact ⟨_, rfl, N, u, rfl, h⟩)) ?_; clear h10
 rintro _ w12 a11 ⟨N16, u17, rfl, hk18, hr19, hd13, hx14⟩ h11
 have hz21 := hx14.size
 have hB20 := (hbD hB15 hx14)
 have hz22 := hB20.size
 have hln23 := WlO.len hd13
 have hl24 := hk18.lt
 have hl25 := sl_len (row_sl hr19 strE_lenW)
 have hl26 : (txtA ([] : List WSeg) ++ ([] : List ByteArray)).length = (txtA ([] : List WSeg)).length + ([] : List ByteArray).length := List.length_append
 have hl27 : (txtA ([] : List WSeg) ++ ([] : List ByteArray)).length = 0 := by rfl
 refine pk0 (v := .tuple #[pt N16 0, u17, .int .i64 0]) h11 rfl fun a28 h28 => ?_; clear h11
 refine pk0 (v := pt N16 0) h28 rfl fun a29 h29 => ?_; clear h28
 refine pk0 (v := u17) h29 rfl fun a30 h30 => ?_; clear h29
 refine pk0 (v := .int .i64 0) h30 rfl fun a31 h31 => ?_; clear h30
 refine pk0 (v := pt N16 0) h31 rfl fun a32 h32 => ?_; clear h31
 refine pk0 (v := u17) h32 rfl fun a33 h33 => ?_; clear h32
 refine pk0 (v := .int .i64 0) h33 rfl fun a34 h34 => ?_; clear h33
 refine pl_nil ?_
 refine co_then ?_
 refine co_seq ?_
 refine co_reg ?_
 refine pk0 (v := pt N16 0) h34 rfl fun a35 h35 => ?_; clear h34
 refine pw h35 rfl (op_call (args := #[pt N16 0, .string (⟨#[97]⟩)]) (R := fun res xw => res = .int .i64 0 ∧ WlO w.heap.size xw N6 1 1 ([] : List WSeg) (([] : List ByteArray) ++ [(⟨#[97]⟩ : ByteArray)]) ∧ ButD w.heap.size w12 xw) rfl rfl rfl (by kernel_rfl) (by kernel_rfl) (Tryd.call12 _ _) (wlAppend w12 (⟨#[97]⟩ : ByteArray) hk18 hd13 (by omega) (ht.below hB20) (tab_pos ht) (by decide)) (by rintro e x ⟨rfl, h1, h2⟩; exact ⟨_, rfl, rfl, h1, h2⟩)) ?_; clear h35
 rintro _ w37 a36 ⟨rfl, hd38, hx39⟩ h36
 have hz41 := hx39.size
 have hB40 := (hbD hB20 hx39)
 have hz42 := hB40.size
 have hln43 := WlO.len hd38
 refine pk0 (v := .int .i64 0) h36 rfl fun a44 h44 => ?_; clear h36
 refine pl_nil ?_
 refine co_then ?_
 refine co_seq ?_
 refine co_reg ?_
 refine pk0 (v := pt N6 0) h44 rfl fun a45 h45 => ?_; clear h44
 refine pw h45 rfl (op_call (args := #[pt N6 0, .int .i64 1]) (R := fun res xw => ∃ (u : Value), res = .tuple #[u, .int .i64 (hereA 1 ((([] : List ByteArray) ++ [(⟨#[97]⟩ : ByteArray)]).foldl appA ([] : List WSeg)))] ∧ xw.ownsRow w37.heap.size 9 1 u (txtA ([] : List WSeg) ++ (([] : List ByteArray) ++ [(⟨#[97]⟩ : ByteArray)])).length ((txtA ([] : List WSeg) ++ (([] : List ByteArray) ++ [(⟨#[97]⟩ : ByteArray)])).flatMap strE) ∧ WlO w.heap.size xw N6 1 1 ([] : List WSeg) (([] : List ByteArray) ++ [(⟨#[97]⟩ : ByteArray)]) ∧ ButD w.heap.size w37 xw) rfl rfl rfl (by kernel_rfl) (by kernel_rfl) (Tryd.call16 _ _) (wlRead w37 hd38 (by omega) (ht.below hB40) (tab_pos ht)) (by rintro e x ⟨u, rfl, h⟩; exact ⟨_, rfl, u, rfl, h⟩)) ?_; clear h45
 rintro _ w47 a46 ⟨u50, rfl, hr51, hd48, hx49⟩ h46
 have hz53 := hx49.size
 have hB52 := (hbD hB40 hx49)
 have hz54 := hB52.size
 have hln55 := WlO.len hd48
 have hl56 := sl_len (row_sl hr51 strE_lenW)
 have hl57 : (txtA ([] : List WSeg) ++ (([] : List ByteArray) ++ [(⟨#[97]⟩ : ByteArray)])).length = (txtA ([] : List WSeg)).length + (([] : List ByteArray) ++ [(⟨#[97]⟩ : ByteArray)]).length := List.length_append
 have hl58 : (txtA ([] : List WSeg) ++ (([] : List ByteArray) ++ [(⟨#[97]⟩ : ByteArray)])).length = 1 := by rfl
 refine pk0 (v := .tuple #[u50, .int .i64 (hereA 1 ((([] : List ByteArray) ++ [(⟨#[97]⟩ : ByteArray)]).foldl appA ([] : List WSeg)))]) h46 rfl fun a59 h59 => ?_; clear h46
 refine pk0 (v := u50) h59 rfl fun a60 h60 => ?_; clear h59
 refine pk0 (v := .int .i64 (hereA 1 ((([] : List ByteArray) ++ [(⟨#[97]⟩ : ByteArray)]).foldl appA ([] : List WSeg)))) h60 rfl fun a61 h61 => ?_; clear h60
 refine pk0 (v := u50) h61 rfl fun a62 h62 => ?_; clear h61
 refine pk0 (v := .int .i64 (hereA 1 ((([] : List ByteArray) ++ [(⟨#[97]⟩ : ByteArray)]).foldl appA ([] : List WSeg)))) h62 rfl fun a63 h63 => ?_; clear h62
 refine pl_nil ?_
 refine co_then ?_
 refine co_seq ?_
 refine co_reg ?_
 refine pk0 (v := .int .i64 0) h63 rfl fun a64 h64 => ?_; clear h63
 refine pk0 (v := .bool ((0 : Int) == 0)) h64 rfl fun a65 h65 => ?_; clear h64
 refine pk0 (v := .bool ((0 : Int) == 0)) h65 rfl fun a66 h66 => ?_; clear h65
 have hc67 : ((0 : Int) == 0) = true := by first | (simp; done) | (simp; omega) | exact beq_false_of_ne (by omega) | exact beq_iff_eq.2 (by omega)
 rw [hc67] at h66; clear hc67
 refine pk0 (v := u17) h66 rfl fun a68 h68 => ?_; clear h66
 have hr69 := rowD hr19 (by unfold offD; decide) hx39
 have hr70 := rowD hr69 (by unfold offD; decide) hx49
 refine pk (v := .int .i64 (((txtA ([] : List WSeg) ++ ([] : List ByteArray)).length : Nat) : Int)) h68 rfl (rn_lenOwn rfl rfl Tryd.underlying28 hr70) fun a71 h71 => ?_; clear h68
 refine pk0 (v := .bool ((((txtA ([] : List WSeg) ++ ([] : List ByteArray)).length : Nat) : Int) == 0)) h71 rfl fun a72 h72 => ?_; clear h71
 refine pk0 (v := .bool ((((txtA ([] : List WSeg) ++ ([] : List ByteArray)).length : Nat) : Int) == 0)) h72 rfl fun a73 h73 => ?_; clear h72
 refine pk0 (v := .bool ((((txtA ([] : List WSeg) ++ ([] : List ByteArray)).length : Nat) : Int) == 0)) h73 rfl fun a74 h74 => ?_; clear h73
 have hc75 : ((((txtA ([] : List WSeg) ++ ([] : List ByteArray)).length : Nat) : Int) == 0) = true := by first | (simp; done) | (simp; omega) | exact beq_false_of_ne (by omega) | exact beq_iff_eq.2 (by omega)
 rw [hc75] at h74; clear hc75
 refine pk0 (v := .int .i64 0) h74 rfl fun a76 h76 => ?_; clear h74
 refine pk0 (v := .bool ((0 : Int) == 0)) h76 rfl fun a77 h77 => ?_; clear h76
 refine pk0 (v := .bool ((0 : Int) == 0)) h77 rfl fun a78 h78 => ?_; clear h77
 refine pk0 (v := .bool ((0 : Int) == 0)) h78 rfl fun a79 h79 => ?_; clear h78
 have hc80 : ((0 : Int) == 0) = true := by first | (simp; done) | (simp; omega) | exact beq_false_of_ne (by omega) | exact beq_iff_eq.2 (by omega)
 rw [hc80] at h79; clear hc80
 refine pk0 (v := u50) h79 rfl fun a81 h81 => ?_; clear h79
 refine pk (v := .int .i64 (((txtA ([] : List WSeg) ++ (([] : List ByteArray) ++ [(⟨#[97]⟩ : ByteArray)])).length : Nat) : Int)) h81 rfl (rn_lenOwn rfl rfl Tryd.underlying28 hr51) fun a82 h82 => ?_; clear h81
 refine pk0 (v := .bool ((((txtA ([] : List WSeg) ++ (([] : List ByteArray) ++ [(⟨#[97]⟩ : ByteArray)])).length : Nat) : Int) == 1)) h82 rfl fun a83 h83 => ?_; clear h82
 refine pk0 (v := .bool ((((txtA ([] : List WSeg) ++ (([] : List ByteArray) ++ [(⟨#[97]⟩ : ByteArray)])).length : Nat) : Int) == 1)) h83 rfl fun a84 h84 => ?_; clear h83
 refine pk0 (v := .bool ((((txtA ([] : List WSeg) ++ (([] : List ByteArray) ++ [(⟨#[97]⟩ : ByteArray)])).length : Nat) : Int) == 1)) h84 rfl fun a85 h85 => ?_; clear h84
 have hc86 : ((((txtA ([] : List WSeg) ++ (([] : List ByteArray) ++ [(⟨#[97]⟩ : ByteArray)])).length : Nat) : Int) == 1) = true := by first | (simp; done) | (simp; omega) | exact beq_false_of_ne (by omega) | exact beq_iff_eq.2 (by omega)
 rw [hc86] at h85; clear hc86
 refine pk0 (v := u50) h85 rfl fun a87 h87 => ?_; clear h85
 obtain ⟨y88, hy88⟩ : ∃ z, (txtA ([] : List WSeg) ++ (([] : List ByteArray) ++ [(⟨#[97]⟩ : ByteArray)]))[0]? = some z := ⟨_, List.getElem?_eq_getElem (by first | omega | (simp; done) | (simp; omega))⟩
 refine pk (v := pt (blkOf u50) (offOf u50 + 0 * 1)) h87 rfl (rn_index rfl rfl rfl Tryd.underlying28 Tryd.sizeOf9 (row_sl hr51 strE_lenW) (by omega) (by first | omega | (simp; done) | (simp; omega))) fun a89 h89 => ?_; clear h87
 refine pk (v := .string y88) h89 rfl (rn_load1 rfl rfl Tryd.isAgg9 ((sl_at (row_sl hr51 strE_lenW) hy88) 0 _ rfl)) fun a90 h90 => ?_; clear h89
 refine pk0 (v := .bool (y88.toList == (⟨#[97]⟩ : ByteArray).toList)) h90 rfl fun a91 h91 => ?_; clear h90
 refine pk0 (v := .bool (y88.toList == (⟨#[97]⟩ : ByteArray).toList)) h91 rfl fun a92 h92 => ?_; clear h91
 refine pk0 (v := .bool (y88.toList == (⟨#[97]⟩ : ByteArray).toList)) h92 rfl fun a93 h93 => ?_; clear h92
 have hc94 : (y88.toList == (⟨#[97]⟩ : ByteArray).toList) = true := by first | rfl | (simp; done) | (have e9 := aw_get hy88; rw [e9]; simp)
 rw [hc94] at h93; clear hc94
 refine pk0 (v := .int .i64 (hereA 1 ((([] : List ByteArray) ++ [(⟨#[97]⟩ : ByteArray)]).foldl appA ([] : List WSeg)))) h93 rfl fun a95 h95 => ?_; clear h93
 refine pk0 (v := .bool (hereA 1 ((([] : List ByteArray) ++ [(⟨#[97]⟩ : ByteArray)]).foldl appA ([] : List WSeg)) == 1)) h95 rfl fun a96 h96 => ?_; clear h95
 refine pk0 (v := .bool (hereA 1 ((([] : List ByteArray) ++ [(⟨#[97]⟩ : ByteArray)]).foldl appA ([] : List WSeg)) == 1)) h96 rfl fun a97 h97 => ?_; clear h96
 refine pk0 (v := .bool (hereA 1 ((([] : List ByteArray) ++ [(⟨#[97]⟩ : ByteArray)]).foldl appA ([] : List WSeg)) == 1)) h97 rfl fun a98 h98 => ?_; clear h97
 have hc99 : (hereA 1 ((([] : List ByteArray) ++ [(⟨#[97]⟩ : ByteArray)]).foldl appA ([] : List WSeg)) == 1) = true := by rw [aw_hereL]; rfl
 rw [hc99] at h98; clear hc99
 refine pk0 (v := pt N16 0) h98 rfl fun a100 h100 => ?_; clear h98
 have hk105 := blkD hk18 (by unfold offD; decide) hx39
 have hk106 := blkD hk105 (by unfold offD; decide) hx49
 refine pw h100 rfl (op_call (args := #[pt N16 0]) (R := fun res xw => res = .int .i64 (hereA 1 ((([] : List ByteArray) ++ [(⟨#[97]⟩ : ByteArray)]).foldl appA ([] : List WSeg))) ∧ WlO w.heap.size xw N6 1 1 ([] : List WSeg) (([] : List ByteArray) ++ [(⟨#[97]⟩ : ByteArray)]) ∧ ButD w.heap.size w47 xw) rfl rfl rfl (by kernel_rfl) (by kernel_rfl) (Tryd.call17 _ _) (wlLast w47 hk106 hd48 (by omega) (ht.below hB52) (tab_pos ht)) (by rintro e x ⟨rfl, h1, h2⟩; exact ⟨_, rfl, rfl, h1, h2⟩)) ?_; clear h100
 rintro _ w102 a101 ⟨rfl, hd103, hx104⟩ h101
 have hz108 := hx104.size
 have hB107 := (hbD hB52 hx104)
 have hz109 := hB107.size
 have hln110 := WlO.len hd103
 refine pk0 (v := .bool (hereA 1 ((([] : List ByteArray) ++ [(⟨#[97]⟩ : ByteArray)]).foldl appA ([] : List WSeg)) == 1)) h101 rfl fun a111 h111 => ?_; clear h101
 refine pk0 (v := .bool (hereA 1 ((([] : List ByteArray) ++ [(⟨#[97]⟩ : ByteArray)]).foldl appA ([] : List WSeg)) == 1)) h111 rfl fun a112 h112 => ?_; clear h111
 refine pk0 (v := .bool (hereA 1 ((([] : List ByteArray) ++ [(⟨#[97]⟩ : ByteArray)]).foldl appA ([] : List WSeg)) == 1)) h112 rfl fun a113 h113 => ?_; clear h112
 refine pl_nil ?_
 refine co_then ?_
 refine wp_ret ?_
 refine co_ret1 h113 rfl rfl ?_
 exact ⟨by rw [aw_hereL]; rfl, hB107⟩
end Go.Proofs.YtfiplhnplmadmaaDoor

/- catenalaw12: WalZero. Conditions: a laid table. -/
namespace Go.Proofs.YtfiplhnplmadmaaDoor
open Go.RowKit Go.PlainAid
set_option linter.unusedVariables false
set_option linter.unusedSimpArgs false

set_option maxRecDepth 100000 in
theorem wapN_any (t : ByteArray) (w : World)  :
    Calls Tryd.prog 12 #[.pointer none, .string t] w fun e w' => e = .returned (.int .i64 8) ∧ Below w.heap.size w w' := by
 have hB0 := Below.refl w.heap.size w
 refine co_enter (n := 39) Tryd.func12 rfl rfl rfl [(0, .pointer none), (1, .string t)] rfl (fun a h0 => ?_)
 refine co_seq ?_
 refine co_reg ?_
 refine pk0 (v := .int .i64 0) h0 rfl fun a1 h1 => ?_; clear h0
 refine pl_nil ?_
 refine co_then ?_
 refine co_seq ?_
 refine co_seq ?_
 refine co_reg ?_
 refine pk0 (v := .pointer none) h1 rfl fun a2 h2 => ?_; clear h1
 refine pk0 (v := .bool true) h2 rfl fun a3 h3 => ?_; clear h2
 refine pk0 (v := .bool true) h3 rfl fun a4 h4 => ?_; clear h3
 refine psk h4 rfl fun a5 h5 => ?_; clear h4
 refine psk h5 rfl fun a6 h6 => ?_; clear h5
 refine psk h6 rfl fun a7 h7 => ?_; clear h6
 refine psk h7 rfl fun a8 h8 => ?_; clear h7
 refine psk h8 rfl fun a9 h9 => ?_; clear h8
 refine pk0 (v := .bool true) h9 rfl fun a10 h10 => ?_; clear h9
 refine pl_nil ?_
 refine co_then ?_
 refine co_true h10 rfl ?_
 refine co_seq ?_
 refine co_reg ?_
 refine pk0 (v := .int .i64 8) h10 rfl fun a11 h11 => ?_; clear h10
 refine pl_nil ?_
 refine co_then ?_
 refine wp_ret ?_
 refine co_thenR ?_
 refine co_ret1 h11 rfl rfl ?_
 exact ⟨rfl, hB0⟩
set_option maxRecDepth 100000 in
theorem wapZ_any (b : Nat) (t : ByteArray) (w : World) (hb : Blk w b 41 #[.bool false, .pointer none, .int .i64 0]) :
    Calls Tryd.prog 12 #[pt b 0, .string t] w fun e w' => e = .returned (.int .i64 8) ∧ Below w.heap.size w w' := by
 have hB0 := Below.refl w.heap.size w
 have hl_hb := hb.lt
 refine co_enter (n := 39) Tryd.func12 rfl rfl rfl [(0, pt b 0), (1, .string t)] rfl (fun a h0 => ?_)
 refine co_seq ?_
 refine co_reg ?_
 refine pk0 (v := .int .i64 0) h0 rfl fun a1 h1 => ?_; clear h0
 refine pl_nil ?_
 refine co_then ?_
 refine co_seq ?_
 refine co_seq ?_
 refine co_reg ?_
 refine pk0 (v := pt b 0) h1 rfl fun a2 h2 => ?_; clear h1
 refine pk0 (v := .bool false) h2 rfl fun a3 h3 => ?_; clear h2
 refine pk0 (v := .bool false) h3 rfl fun a4 h4 => ?_; clear h3
 refine pk0 (v := pt b 0) h4 rfl fun a5 h5 => ?_; clear h4
 refine pk0 (v := pt b 0) h5 rfl fun a6 h6 => ?_; clear h5
 refine pk0 (v := pt b 0) h6 rfl fun a7 h7 => ?_; clear h6
 refine pk (v := .bool false) h7 rfl (rn_load1 rfl rfl Tryd.isAgg4 (hb.cell rfl)) fun a8 h8 => ?_; clear h7
 refine pk0 (v := .bool true) h8 rfl fun a9 h9 => ?_; clear h8
 refine pk0 (v := .bool true) h9 rfl fun a10 h10 => ?_; clear h9
 refine pl_nil ?_
 refine co_then ?_
 refine co_true h10 rfl ?_
 refine co_seq ?_
 refine co_reg ?_
 refine pk0 (v := .int .i64 8) h10 rfl fun a11 h11 => ?_; clear h10
 refine pl_nil ?_
 refine co_then ?_
 refine wp_ret ?_
 refine co_thenR ?_
 refine co_ret1 h11 rfl rfl ?_
 exact ⟨rfl, hB0⟩
set_option maxRecDepth 100000 in
theorem wlaN_any  (w : World)  :
    Calls Tryd.prog 17 #[.pointer none] w fun e w' => e = .returned (.int .i64 0) ∧ Below w.heap.size w w' := by
 have hB0 := Below.refl w.heap.size w
 refine co_enter (n := 21) Tryd.func17 rfl rfl rfl [(0, .pointer none)] rfl (fun a h0 => ?_)
 refine co_seq ?_
 refine co_reg ?_
 refine pk0 (v := .int .i64 0) h0 rfl fun a1 h1 => ?_; clear h0
 refine pl_nil ?_
 refine co_then ?_
 refine co_seq ?_
 refine co_seq ?_
 refine co_reg ?_
 refine pk0 (v := .pointer none) h1 rfl fun a2 h2 => ?_; clear h1
 refine pk0 (v := .bool true) h2 rfl fun a3 h3 => ?_; clear h2
 refine pk0 (v := .bool true) h3 rfl fun a4 h4 => ?_; clear h3
 refine psk h4 rfl fun a5 h5 => ?_; clear h4
 refine psk h5 rfl fun a6 h6 => ?_; clear h5
 refine psk h6 rfl fun a7 h7 => ?_; clear h6
 refine psk h7 rfl fun a8 h8 => ?_; clear h7
 refine psk h8 rfl fun a9 h9 => ?_; clear h8
 refine pk0 (v := .bool true) h9 rfl fun a10 h10 => ?_; clear h9
 refine pl_nil ?_
 refine co_then ?_
 refine co_true h10 rfl ?_
 refine co_seq ?_
 refine co_reg ?_
 refine pk0 (v := .int .i64 0) h10 rfl fun a11 h11 => ?_; clear h10
 refine pl_nil ?_
 refine co_then ?_
 refine wp_ret ?_
 refine co_thenR ?_
 refine co_ret1 h11 rfl rfl ?_
 exact ⟨rfl, hB0⟩
set_option maxRecDepth 100000 in
theorem wlaZ_any (b : Nat) (w : World) (hb : Blk w b 41 #[.bool false, .pointer none, .int .i64 0]) :
    Calls Tryd.prog 17 #[pt b 0] w fun e w' => e = .returned (.int .i64 0) ∧ Below w.heap.size w w' := by
 have hB0 := Below.refl w.heap.size w
 have hl_hb := hb.lt
 refine co_enter (n := 21) Tryd.func17 rfl rfl rfl [(0, pt b 0)] rfl (fun a h0 => ?_)
 refine co_seq ?_
 refine co_reg ?_
 refine pk0 (v := .int .i64 0) h0 rfl fun a1 h1 => ?_; clear h0
 refine pl_nil ?_
 refine co_then ?_
 refine co_seq ?_
 refine co_seq ?_
 refine co_reg ?_
 refine pk0 (v := pt b 0) h1 rfl fun a2 h2 => ?_; clear h1
 refine pk0 (v := .bool false) h2 rfl fun a3 h3 => ?_; clear h2
 refine pk0 (v := .bool false) h3 rfl fun a4 h4 => ?_; clear h3
 refine pk0 (v := pt b 0) h4 rfl fun a5 h5 => ?_; clear h4
 refine pk0 (v := pt b 0) h5 rfl fun a6 h6 => ?_; clear h5
 refine pk0 (v := pt b 0) h6 rfl fun a7 h7 => ?_; clear h6
 refine pk (v := .bool false) h7 rfl (rn_load1 rfl rfl Tryd.isAgg4 (hb.cell rfl)) fun a8 h8 => ?_; clear h7
 refine pk0 (v := .bool true) h8 rfl fun a9 h9 => ?_; clear h8
 refine pk0 (v := .bool true) h9 rfl fun a10 h10 => ?_; clear h9
 refine pl_nil ?_
 refine co_then ?_
 refine co_true h10 rfl ?_
 refine co_seq ?_
 refine co_reg ?_
 refine pk0 (v := .int .i64 0) h10 rfl fun a11 h11 => ?_; clear h10
 refine pl_nil ?_
 refine co_then ?_
 refine wp_ret ?_
 refine co_thenR ?_
 refine co_ret1 h11 rfl rfl ?_
 exact ⟨rfl, hB0⟩
set_option maxRecDepth 100000 in
theorem wopN_any (n : Int) (w : World)  :
    Calls Tryd.prog 11 #[.pointer none, .int .i64 n] w fun e w' => e = .returned (.tuple #[.pointer none, .slice none 0 0, .int .i64 1]) ∧ Below w.heap.size w w' := by
 have hB0 := Below.refl w.heap.size w
 refine co_enter (n := 48) Tryd.func11 rfl rfl rfl [(0, .pointer none), (1, .int .i64 n)] rfl (fun a h0 => ?_)
 refine co_seq ?_
 refine co_reg ?_
 refine pk0 (v := .pointer none) h0 rfl fun a1 h1 => ?_; clear h0
 refine pk0 (v := .slice none 0 0) h1 rfl fun a2 h2 => ?_; clear h1
 refine pk0 (v := .int .i64 0) h2 rfl fun a3 h3 => ?_; clear h2
 refine pl_nil ?_
 refine co_then ?_
 refine co_seq ?_
 refine co_seq ?_
 refine co_reg ?_
 refine pk0 (v := .pointer none) h3 rfl fun a4 h4 => ?_; clear h3
 refine pk0 (v := .bool true) h4 rfl fun a5 h5 => ?_; clear h4
 refine pk0 (v := .bool true) h5 rfl fun a6 h6 => ?_; clear h5
 refine psk h6 rfl fun a7 h7 => ?_; clear h6
 refine psk h7 rfl fun a8 h8 => ?_; clear h7
 refine pk0 (v := .bool true) h8 rfl fun a9 h9 => ?_; clear h8
 refine pk0 (v := .bool true) h9 rfl fun a10 h10 => ?_; clear h9
 refine psk h10 rfl fun a11 h11 => ?_; clear h10
 refine psk h11 rfl fun a12 h12 => ?_; clear h11
 refine pk0 (v := .bool true) h12 rfl fun a13 h13 => ?_; clear h12
 refine pl_nil ?_
 refine co_then ?_
 refine co_true h13 rfl ?_
 refine co_seq ?_
 refine co_reg ?_
 refine pk0 (v := .pointer none) h13 rfl fun a14 h14 => ?_; clear h13
 refine pk0 (v := .slice none 0 0) h14 rfl fun a15 h15 => ?_; clear h14
 refine pk0 (v := .int .i64 1) h15 rfl fun a16 h16 => ?_; clear h15
 refine pl_nil ?_
 refine co_then ?_
 refine wp_ret ?_
 refine co_thenR ?_
 refine co_ret3 h16 rfl rfl rfl rfl ?_
 exact ⟨rfl, hB0⟩
set_option maxRecDepth 100000 in
theorem wreN_any (n : Int) (w : World)  :
    Calls Tryd.prog 16 #[.pointer none, .int .i64 n] w fun e w' => e = .returned (.tuple #[.slice none 0 0, .int .i64 n]) ∧ Below w.heap.size w w' := by
 have hB0 := Below.refl w.heap.size w
 refine co_enter (n := 22) Tryd.func16 rfl rfl rfl [(0, .pointer none), (1, .int .i64 n)] rfl (fun a h0 => ?_)
 refine co_seq ?_
 refine co_reg ?_
 refine pk0 (v := .slice none 0 0) h0 rfl fun a1 h1 => ?_; clear h0
 refine pk0 (v := .int .i64 0) h1 rfl fun a2 h2 => ?_; clear h1
 refine pl_nil ?_
 refine co_then ?_
 refine co_seq ?_
 refine co_reg ?_
 refine pk0 (v := .pointer none) h2 rfl fun a3 h3 => ?_; clear h2
 refine pk0 (v := .int .i64 n) h3 rfl fun a4 h4 => ?_; clear h3
 refine pw h4 rfl (op_call (args := #[.pointer none, .int .i64 n]) (R := fun res xw => res = .tuple #[.pointer none, .slice none 0 0, .int .i64 1] ∧ Below w.heap.size w xw) rfl rfl rfl (by kernel_rfl) (by kernel_rfl) (Tryd.call11 _ _) (wopN_any n w ) (by rintro e x ⟨rfl, hb7⟩; exact ⟨_, rfl, ⟨rfl, hb7⟩⟩)) ?_; clear h4
 rintro _ w6 a5 ⟨rfl, hb7⟩ h5
 have hz8 := hb7.size
 refine pk0 (v := .tuple #[.pointer none, .slice none 0 0, .int .i64 1]) h5 rfl fun a9 h9 => ?_; clear h5
 refine pk0 (v := .pointer none) h9 rfl fun a10 h10 => ?_; clear h9
 refine pk0 (v := .slice none 0 0) h10 rfl fun a11 h11 => ?_; clear h10
 refine pk0 (v := .int .i64 1) h11 rfl fun a12 h12 => ?_; clear h11
 refine pk0 (v := .pointer none) h12 rfl fun a13 h13 => ?_; clear h12
 refine pk0 (v := .slice none 0 0) h13 rfl fun a14 h14 => ?_; clear h13
 refine pk0 (v := .int .i64 1) h14 rfl fun a15 h15 => ?_; clear h14
 refine pl_nil ?_
 refine co_then ?_
 refine co_seq ?_
 refine co_seq ?_
 refine co_reg ?_
 refine pk0 (v := .int .i64 1) h15 rfl fun a16 h16 => ?_; clear h15
 refine pk0 (v := .bool ((1 : Int) != 0)) h16 rfl fun a17 h17 => ?_; clear h16
 refine pl_nil ?_
 refine co_then ?_
 have hc18 : ((1 : Int) != 0) = true := by first | (simp; done) | (simp; omega) | exact beq_false_of_ne (by omega) | exact beq_iff_eq.2 (by omega)
 rw [hc18] at h17; clear hc18
 refine co_true h17 rfl ?_
 refine co_seq ?_
 refine co_reg ?_
 refine pk0 (v := .int .i64 n) h17 rfl fun a19 h19 => ?_; clear h17
 refine pk0 (v := .slice none 0 0) h19 rfl fun a20 h20 => ?_; clear h19
 refine pk0 (v := .int .i64 n) h20 rfl fun a21 h21 => ?_; clear h20
 refine pl_nil ?_
 refine co_then ?_
 refine wp_ret ?_
 refine co_thenR ?_
 refine co_ret2 h21 rfl rfl rfl ?_
 have hB22 := hb_call hB0 hb7
 exact ⟨rfl, hB22⟩
set_option maxRecDepth 100000 in
set_option maxHeartbeats 1600000 in
theorem walZero_law (n : Int) (t : ByteArray) (w : World) (ht : Tab w) (htz : t.size ≤ 140737488351232) :
    Calls Tryd.prog 4 #[.int .i64 n, .string t] w fun e w' => e = .returned (.bool true) ∧ Below w.heap.size w w' := by
 have hB0 := Below.refl w.heap.size w
 refine co_enter (n := 69) Tryd.func4 rfl rfl rfl [(0, .int .i64 n), (1, .string t)] rfl (fun a h0 => ?_)
 refine co_seq ?_
 refine co_reg ?_
 refine pk0 (v := .bool false) h0 rfl fun a1 h1 => ?_; clear h0
 refine pl_nil ?_
 refine co_then ?_
 refine co_seq ?_
 refine co_seq ?_
 refine co_reg ?_
 refine pk0 (v := .string t) h1 rfl fun a2 h2 => ?_; clear h1
 refine pk (v := .int .i64 ((t.size : Nat) : Int)) h2 rfl (rn_lenStr rfl rfl Tryd.underlying9) fun a3 h3 => ?_; clear h2
 refine pk0 (v := .bool (decide (((t.size : Nat) : Int) > 300))) h3 rfl fun a4 h4 => ?_; clear h3
 refine pl_nil ?_
 refine co_then ?_
 cases hc5 : (decide (((t.size : Nat) : Int) > 300))
 ·
  rw [hc5] at h4
  have hp6 : ¬ (((t.size : Nat) : Int) > 300) := of_decide_eq_false hc5
  clear hc5
  refine co_false h4 rfl ?_
  refine wp_skip ?_
  refine co_then ?_
  refine co_seq ?_
  refine co_reg ?_
  refine pk0 (v := .pointer none) h4 rfl fun a7 h7 => ?_; clear h4
  refine pl_nil ?_
  refine co_then ?_
  refine co_seq ?_
  refine co_reg ?_
  refine pw h7 rfl (op_new (v := fun N => pt N 0) (T := 41) (cs := #[.bool false, .pointer none, .int .i64 0]) (by kernel_rfl) (by kernel_rfl) (by kernel_rfl)) ?_; clear h7
  rintro _ w9 a8 ⟨N10, rfl, hN13, hz14, hk12, hg11⟩ h8
  have hz15 := hg11.size
  try dsimp only at h8
  refine pl_nil ?_
  refine co_then ?_
  refine co_seq ?_
  refine co_reg ?_
  refine pk0 (v := .int .i64 n) h8 rfl fun a16 h16 => ?_; clear h8
  refine pw h16 rfl (op_call (args := #[.pointer none, .int .i64 n]) (R := fun res xw => res = .tuple #[.pointer none, .slice none 0 0, .int .i64 1] ∧ Below w9.heap.size w9 xw) rfl rfl rfl (by kernel_rfl) (by kernel_rfl) (Tryd.call11 _ _) (wopN_any n w9 ) (by rintro e x ⟨rfl, hb19⟩; exact ⟨_, rfl, ⟨rfl, hb19⟩⟩)) ?_; clear h16
  rintro _ w18 a17 ⟨rfl, hb19⟩ h17
  have hz20 := hb19.size
  refine pk0 (v := .tuple #[.pointer none, .slice none 0 0, .int .i64 1]) h17 rfl fun a21 h21 => ?_; clear h17
  refine pk0 (v := .pointer none) h21 rfl fun a22 h22 => ?_; clear h21
  refine pk0 (v := .slice none 0 0) h22 rfl fun a23 h23 => ?_; clear h22
  refine pk0 (v := .int .i64 1) h23 rfl fun a24 h24 => ?_; clear h23
  refine pk0 (v := .pointer none) h24 rfl fun a25 h25 => ?_; clear h24
  refine pk0 (v := .slice none 0 0) h25 rfl fun a26 h26 => ?_; clear h25
  refine pk0 (v := .int .i64 1) h26 rfl fun a27 h27 => ?_; clear h26
  refine pl_nil ?_
  refine co_then ?_
  refine co_seq ?_
  refine co_reg ?_
  refine pk0 (v := .int .i64 n) h27 rfl fun a28 h28 => ?_; clear h27
  refine pw h28 rfl (op_call (args := #[.pointer none, .int .i64 n]) (R := fun res xw => res = .tuple #[.slice none 0 0, .int .i64 n] ∧ Below w18.heap.size w18 xw) rfl rfl rfl (by kernel_rfl) (by kernel_rfl) (Tryd.call16 _ _) (wreN_any n w18 ) (by rintro e x ⟨rfl, hb31⟩; exact ⟨_, rfl, ⟨rfl, hb31⟩⟩)) ?_; clear h28
  rintro _ w30 a29 ⟨rfl, hb31⟩ h29
  have hz32 := hb31.size
  refine pk0 (v := .tuple #[.slice none 0 0, .int .i64 n]) h29 rfl fun a33 h33 => ?_; clear h29
  refine pk0 (v := .slice none 0 0) h33 rfl fun a34 h34 => ?_; clear h33
  refine pk0 (v := .int .i64 n) h34 rfl fun a35 h35 => ?_; clear h34
  refine pk0 (v := .slice none 0 0) h35 rfl fun a36 h36 => ?_; clear h35
  refine pk0 (v := .int .i64 n) h36 rfl fun a37 h37 => ?_; clear h36
  refine pl_nil ?_
  refine co_then ?_
  refine co_seq ?_
  refine co_reg ?_
  refine pk0 (v := .pointer none) h37 rfl fun a38 h38 => ?_; clear h37
  refine pk0 (v := .string t) h38 rfl fun a39 h39 => ?_; clear h38
  refine pw h39 rfl (op_call (args := #[.pointer none, .string t]) (R := fun res xw => res = .int .i64 8 ∧ Below w30.heap.size w30 xw) rfl rfl rfl (by kernel_rfl) (by kernel_rfl) (Tryd.call12 _ _) (wapN_any t w30 ) (by rintro e x ⟨rfl, hb42⟩; exact ⟨_, rfl, ⟨rfl, hb42⟩⟩)) ?_; clear h39
  rintro _ w41 a40 ⟨rfl, hb42⟩ h40
  have hz43 := hb42.size
  refine pk0 (v := .bool ((8 : Int) == 8)) h40 rfl fun a44 h44 => ?_; clear h40
  refine pk0 (v := .bool ((8 : Int) == 8)) h44 rfl fun a45 h45 => ?_; clear h44
  have hc46 : ((8 : Int) == 8) = true := by simp
  rw [hc46] at h45; clear hc46
  refine pk0 (v := .string t) h45 rfl fun a47 h47 => ?_; clear h45
  have hk50 := hk12.below hb19
  have hk51 := hk50.below hb31
  have hk52 := hk51.below hb42
  refine pw h47 rfl (op_call (args := #[pt N10 0, .string t]) (R := fun res xw => res = .int .i64 8 ∧ Below w41.heap.size w41 xw) rfl rfl rfl (by kernel_rfl) (by kernel_rfl) (Tryd.call12 _ _) (wapZ_any N10 t w41 hk52) (by rintro e x ⟨rfl, hb53⟩; exact ⟨_, rfl, ⟨rfl, hb53⟩⟩)) ?_; clear h47
  rintro _ w49 a48 ⟨rfl, hb53⟩ h48
  have hz54 := hb53.size
  refine pk0 (v := .bool ((8 : Int) == 8)) h48 rfl fun a55 h55 => ?_; clear h48
  refine pk0 (v := .bool ((8 : Int) == 8)) h55 rfl fun a56 h56 => ?_; clear h55
  refine pk0 (v := .bool ((8 : Int) == 8)) h56 rfl fun a57 h57 => ?_; clear h56
  have hc58 : ((8 : Int) == 8) = true := by simp
  rw [hc58] at h57; clear hc58
  refine pk0 (v := .pointer none) h57 rfl fun a59 h59 => ?_; clear h57
  refine pw h59 rfl (op_call (args := #[.pointer none]) (R := fun res xw => res = .int .i64 0 ∧ Below w49.heap.size w49 xw) rfl rfl rfl (by kernel_rfl) (by kernel_rfl) (Tryd.call17 _ _) (wlaN_any  w49 ) (by rintro e x ⟨rfl, hb62⟩; exact ⟨_, rfl, ⟨rfl, hb62⟩⟩)) ?_; clear h59
  rintro _ w61 a60 ⟨rfl, hb62⟩ h60
  have hz63 := hb62.size
  have hk66 := hk52.below hb53
  have hk67 := hk66.below hb62
  refine pw h60 rfl (op_call (args := #[pt N10 0]) (R := fun res xw => res = .int .i64 0 ∧ Below w61.heap.size w61 xw) rfl rfl rfl (by kernel_rfl) (by kernel_rfl) (Tryd.call17 _ _) (wlaZ_any N10 w61 hk67) (by rintro e x ⟨rfl, hb68⟩; exact ⟨_, rfl, ⟨rfl, hb68⟩⟩)) ?_; clear h60
  rintro _ w65 a64 ⟨rfl, hb68⟩ h64
  have hz69 := hb68.size
  refine pk0 (v := .int .i64 0) h64 rfl fun a70 h70 => ?_; clear h64
  refine pk0 (v := .bool ((0 : Int) == 0)) h70 rfl fun a71 h71 => ?_; clear h70
  refine pk0 (v := .bool ((0 : Int) == 0)) h71 rfl fun a72 h72 => ?_; clear h71
  refine pk0 (v := .bool ((0 : Int) == 0)) h72 rfl fun a73 h73 => ?_; clear h72
  have hc74 : ((0 : Int) == 0) = true := by simp
  rw [hc74] at h73; clear hc74
  refine pk0 (v := .pointer none) h73 rfl fun a75 h75 => ?_; clear h73
  refine pk0 (v := .bool true) h75 rfl fun a76 h76 => ?_; clear h75
  refine pk0 (v := .bool true) h76 rfl fun a77 h77 => ?_; clear h76
  refine pk0 (v := .bool true) h77 rfl fun a78 h78 => ?_; clear h77
  refine pk0 (v := .slice none 0 0) h78 rfl fun a79 h79 => ?_; clear h78
  refine pk0 (v := .int .i64 0) h79 rfl fun a80 h80 => ?_; clear h79
  refine pk0 (v := .bool ((0 : Int) == 0)) h80 rfl fun a81 h81 => ?_; clear h80
  refine pk0 (v := .bool ((0 : Int) == 0)) h81 rfl fun a82 h82 => ?_; clear h81
  refine pk0 (v := .bool ((0 : Int) == 0)) h82 rfl fun a83 h83 => ?_; clear h82
  have hc84 : ((0 : Int) == 0) = true := by simp
  rw [hc84] at h83; clear hc84
  refine pk0 (v := .int .i64 1) h83 rfl fun a85 h85 => ?_; clear h83
  refine pk0 (v := .bool ((1 : Int) == 1)) h85 rfl fun a86 h86 => ?_; clear h85
  refine pk0 (v := .bool ((1 : Int) == 1)) h86 rfl fun a87 h87 => ?_; clear h86
  refine pk0 (v := .bool ((1 : Int) == 1)) h87 rfl fun a88 h88 => ?_; clear h87
  have hc89 : ((1 : Int) == 1) = true := by simp
  rw [hc89] at h88; clear hc89
  refine pk0 (v := .slice none 0 0) h88 rfl fun a90 h90 => ?_; clear h88
  refine pk0 (v := .int .i64 0) h90 rfl fun a91 h91 => ?_; clear h90
  refine pk0 (v := .bool ((0 : Int) == 0)) h91 rfl fun a92 h92 => ?_; clear h91
  refine pk0 (v := .bool ((0 : Int) == 0)) h92 rfl fun a93 h93 => ?_; clear h92
  refine pk0 (v := .bool ((0 : Int) == 0)) h93 rfl fun a94 h94 => ?_; clear h93
  have hc95 : ((0 : Int) == 0) = true := by simp
  rw [hc95] at h94; clear hc95
  refine pk0 (v := .int .i64 n) h94 rfl fun a96 h96 => ?_; clear h94
  refine pk0 (v := .int .i64 n) h96 rfl fun a97 h97 => ?_; clear h96
  refine pk0 (v := .bool (n == n)) h97 rfl fun a98 h98 => ?_; clear h97
  refine pk0 (v := .bool (n == n)) h98 rfl fun a99 h99 => ?_; clear h98
  refine pk0 (v := .bool (n == n)) h99 rfl fun a100 h100 => ?_; clear h99
  have hc101 : (n == n) = true := by simp
  rw [hc101] at h100; clear hc101
  have hB104 := hb_new hB0 hg11
  have hB105 := hb_call hB104 hb19
  have hB106 := hb_call hB105 hb31
  have hB107 := hb_call hB106 hb42
  have hB108 := hb_call hB107 hb53
  have hB109 := hb_call hB108 hb62
  have hB110 := hb_call hB109 hb68
  refine pw h100 rfl (op_call (args := #[]) (R := fun res xw => res = .bool true ∧ Below w65.heap.size w65 xw) rfl rfl rfl (by kernel_rfl) (by kernel_rfl) (Tryd.call9 _ _) (awake12 w65 (ht.below hB110)) (by rintro e x ⟨rfl, h⟩; exact ⟨_, rfl, rfl, h⟩)) ?_; clear h100
  rintro _ w103 a102 ⟨rfl, hb111⟩ h102
  have hz112 := hb111.size
  refine pk0 (v := .bool true) h102 rfl fun a113 h113 => ?_; clear h102
  refine pk0 (v := .bool true) h113 rfl fun a114 h114 => ?_; clear h113
  refine pl_nil ?_
  refine co_then ?_
  refine wp_ret ?_
  refine co_ret1 h114 rfl rfl ?_
  have hB115 := hb_call hB110 hb111
  exact ⟨rfl, hB115⟩
 ·
  rw [hc5] at h4
  have hp116 : ((t.size : Nat) : Int) > 300 := of_decide_eq_true hc5
  clear hc5
  refine co_true h4 rfl ?_
  refine co_seq ?_
  refine co_reg ?_
  refine pw h4 rfl (op_call (args := #[]) (R := fun res xw => res = .bool true ∧ Below w.heap.size w xw) rfl rfl rfl (by kernel_rfl) (by kernel_rfl) (Tryd.call9 _ _) (awake12 w (ht.below hB0)) (by rintro e x ⟨rfl, h⟩; exact ⟨_, rfl, rfl, h⟩)) ?_; clear h4
  rintro _ w118 a117 ⟨rfl, hb119⟩ h117
  have hz120 := hb119.size
  refine pk0 (v := .bool true) h117 rfl fun a121 h121 => ?_; clear h117
  refine pl_nil ?_
  refine co_then ?_
  refine wp_ret ?_
  refine co_thenR ?_
  refine co_ret1 h121 rfl rfl ?_
  have hB122 := hb_call hB0 hb119
  exact ⟨rfl, hB122⟩
end Go.Proofs.YtfiplhnplmadmaaDoor

/- The table as it is laid: what the row's condition gives the walks. Conditions: none. -/
namespace Go.Proofs.YtfiplhnplmadmaaDoor
open Go.RowKit

def laidList {H : Type} : List (String × DataW H) := [("catena/sum.halves", Rows.laid_catena_sum_halves)]
def halvesZ : List Int := [0, 498536548, 997073096, 651767980, 1994146192, 1802195444, 1303535960, 1342533948, 3988292384, 4027552580, 3604390888, 3412177804, 2607071920, 2262029012, 2685067896, 3183342108]
theorem halves_at : ∀ i, i < 16 → halvesZ.getD i 0 = ((lfn 4 i : Nat) : Int) := by decide
theorem tab_of_laid {W : World} (h : laidMetH Tryd.prog laidList W) : Tab W := by
  rw [MakeChecks.laidMetH_plain _ _ _ (by kernel_rfl)] at h
  have hg : Tryd.prog.globalNamed "catena/sum.halves" = some 0 := by kernel_rfl
  have ht := Lib.tabIs_of_head (P := Tryd.prog) (W := W) (name := "catena/sum.halves") (k := .u32) (zs := halvesZ) (rest := []) (g := 0) (t := 111) (e := 94) (n := 16) hg (by kernel_rfl) Tryd.underlying111 Tryd.underlying94 (by kernel_rfl) (by kernel_rfl) h
  intro i hi
  have := ht.cell hg i (by simpa [halvesZ] using hi)
  rw [halves_at i hi] at this
  exact this
theorem door_met (os : Os) (args : Array Value) : laidMetH Tryd.prog laidList ((World.doorLaid Tryd.prog 400 os).forCall (fun _ _ => 0) ⟨#[], args, []⟩).memory :=
  laidMetH_of_parts3 (fuel := 8) (laidMet_of_run' 8 (by kernel_rfl) (by kernel_rfl)) (by kernel_rfl) (by kernel_rfl)
end Go.Proofs.YtfiplhnplmadmaaDoor
