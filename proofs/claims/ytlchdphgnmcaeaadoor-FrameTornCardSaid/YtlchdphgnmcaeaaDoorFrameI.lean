/- Package frame: All. Conditions: the table reads as it is laid. -/
import Derived.Test.YtlchdphgnmcaeaaDoorFrameH
import Derived.Test.YtlchdphgnmcaeaaDoorStrs
import Derived.Maps.AppendAt
import Derived.ScopeJumps
import Derived.BigQuiet
namespace Go.Proofs.YtlchdphgnmcaeaaDoor
open Go.RowKit Go.Shelf
attribute [local go_sem] Oper.semAt_some

theorem info_strI : (Tryd.prog.info? 9).map (fun i => (i.zero, i.size, i.bytes)) = some (some (.string ⟨#[]⟩), 1, 16) := by kernel_rfl
def txt (l : List Fnd) : List ByteArray := l.map fun x => x.1
def lastAt (l : List Fnd) : Int := (l.getLast?.map fun x => x.2.1).getD 0
theorem txt_snoc (l : List Fnd) (x : Fnd) : txt (l ++ [x]) = txt l ++ [x.1] := by simp [txt]
theorem lastAt_snoc (l : List Fnd) (x : Fnd) : lastAt (l ++ [x]) = x.2.1 := by simp [lastAt]
theorem txt_len (l : List Fnd) : (txt l).length = l.length := by simp [txt]
theorem FRun.last {s : ByteArray} {l : List Fnd} {b : Int} (h : FRun s l b) : lastAt l = b := by
  cases h with
  | nil => rfl
  | snoc h1 h2 h3 => rw [lastAt_snoc]
theorem FRun.good {s : ByteArray} {l : List Fnd} {b : Int} (h : FRun s l b) : ∀ x ∈ l, x.2.2 = 0 := by
  induction h with
  | nil => simp
  | snoc h1 h2 h3 ih =>
    intro x hx
    rcases List.mem_append.1 hx with hx | hx
    · exact ih x hx
    · simp only [List.mem_singleton] at hx; subst hx; exact h3
/-- The variable of the loop. -/
def Fl (W : World) (B : Nat) (x : Fnd) : Prop := W.heap[B]? = some (.cells #[.string x.1, .int .i64 x.2.1, .int .i64 x.2.2] 54 (0, 0))
theorem Fl.lt {W : World} {B : Nat} {x : Fnd} (h : Fl W B x) : B < W.heap.size := (Array.getElem?_eq_some_iff.1 h).1
theorem Fl.cell {W : World} {B : Nat} {x : Fnd} (h : Fl W B x) : W.cell? ⟨B, 0, none⟩ = some (.string x.1) ∧ W.cell? ⟨B, 1, none⟩ = some (.int .i64 x.2.1) ∧ W.cell? ⟨B, 2, none⟩ = some (.int .i64 x.2.2) := by
  refine ⟨?_, ?_, ?_⟩ <;> simp [World.cell?, show W.heap[B]? = _ from h]
theorem Fl.kept {W W' : World} {row : Option Nat} {B : Nat} {x : Fnd} (h : Fl W B x) (hg : W.grownBy W' row) (hne : some B ≠ row) : Fl W' B x := (hg.block B h.lt hne).trans h
theorem Fl.own (B : Nat) (x : Fnd) : Own (fun (_ : Unit) W => Fl W B x) := fun _ X Y row hs hg hrow =>
  hs.kept hg (fun e' => by obtain ⟨o, ho, hc⟩ := hrow B e'.symm; rw [show X.heap[B]? = _ from hs] at ho; cases ho; cases hc)
theorem Fl.not_row {W : World} {B : Nat} {x : Fnd} (h : Fl W B x) {base k : Nat} {v : Value} {xs : List Value} (hr : W.ownsRow base 9 1 v k xs) : some B ≠ v.ownBlock := by
  rcases hr.2 with ⟨rfl, _⟩ | ⟨g, cap, cur, rfl, _, hgb, _⟩
  · simp [Value.ownBlock]
  · intro e'
    obtain rfl : B = g := by simpa [Value.ownBlock] using e'
    have := (show W.heap[B]? = _ from h).symm.trans hgb
    simp at this
theorem own_slice {W : World} {base : Nat} {e : TypeId} {size : Nat} {v : Value} {k : Nat} {xs : List Value} (h : W.ownsRow base e size v k xs) : ∃ ao n cap, v = .slice ao n cap := by
  rcases h.2 with ⟨rfl, _⟩ | ⟨g, cap, cur, rfl, _⟩
  · exact ⟨_, _, _, rfl⟩
  · exact ⟨_, _, _, rfl⟩
/-- What All tells. -/
def AllR (s : ByteArray) (l : List ByteArray) (b e : Int) : Prop := Run s 0 l b ∧ Ends s b e
abbrev IAll (N : Nat) (pre : List Fnd) (W : World) (e : Int) : Prop :=
  ((∃ v, Boxed W N 31 v ∧ W.ownsRow (N + 4) 9 1 v (txt pre).length ((txt pre).flatMap strE) ∧ True) ∧ Boxed W (N + 1) 3 (.int .i64 (lastAt pre))) ∧ Boxed W (N + 2) 22 (.int .i64 e)

theorem IAll.own (N : Nat) (e : Int) : Own (fun (pre : List Fnd) W => IAll N pre W e) := fun s X Y row hs hg hr =>
  ⟨⟨holdsRow_own (N + 4) N 31 9 1 (fun pre => (txt pre).length) (fun pre => (txt pre).flatMap strE) (fun _ _ => True) s X Y row hs.1.1 hg hr,
    boxed_own (N + 1) 3 (fun pre => .int .i64 (lastAt pre)) s X Y row hs.1.2 hg hr⟩, boxed_own (N + 2) 22 (fun _ => .int .i64 e) s X Y row hs.2 hg hr⟩
theorem IAll.alloc {N : Nat} {pre : List Fnd} {W : World} {e : Int} (h : IAll N pre W e) (o : Obj) : IAll N pre (W.alloc o) e :=
  IAll.own N e pre W (W.alloc o) none h (World.grownBy_alloc W o none) (fun _ e => nomatch e)
theorem own_blockI {w : World} {B : Nat} {e : TypeId} {k : Nat} {v : Value} {n : Nat} {xs : List Value} (h : w.ownsRow B e k v n xs) : ∀ g, v.ownBlock = some g → B ≤ g := by
  intro g hg
  rcases h.2 with ⟨rfl, _⟩ | ⟨g', cap, cur, rfl, hg', _⟩
  · simp [Value.ownBlock] at hg
  · simp [Value.ownBlock] at hg; omega
theorem own_lowI {w : World} {B B' : Nat} {e : TypeId} {k : Nat} {v : Value} {n : Nat} {xs : List Value} (h : w.ownsRow B e k v n xs) (hb : B' ≤ B) : w.ownsRow B' e k v n xs := by
  obtain ⟨h1, h2⟩ := h
  refine ⟨h1, ?_⟩
  rcases h2 with h2 | ⟨g, cap, cur, hv, hg, r⟩
  · exact Or.inl h2
  · exact Or.inr ⟨g, cap, cur, hv, Nat.le_trans hb hg, r⟩
theorem cell_far {W W' : World} {row : Option Nat} (hg : W.grownBy W' row) {k : Nat} (hk : some k ≠ row) {v : Value} (c : W.cell? ⟨k, 0, none⟩ = some v) : W'.cell? ⟨k, 0, none⟩ = some v :=
  (World.cell?_of_block (w := W) (hg.block k (World.block_lt_of_cell? W _ c) hk)).trans c
/-- The append, and what it leaves. -/
theorem appended {W w1 : World} {N Bx : Nat} {s : ByteArray} {pre : List Fnd} {v v' : Value} {x : Fnd} {e : Int} {m : Nat} {ys : List Value} {tmp : Obj} (hB : N + 4 ≤ W.heap.size)
    (hv : Boxed W N 31 v) (hrow : W.ownsRow (N + 4) 9 1 v (txt pre).length ((txt pre).flatMap strE)) (b1 : Boxed W (N + 1) 3 (.int .i64 (lastAt pre))) (b2 : Boxed W (N + 2) 22 (.int .i64 e)) (hx : Fl W Bx x) (hBx : N + 2 < Bx)
    (hown' : w1.ownsRow (N + 4) 9 1 v' m ys) (hgrow : (W.alloc tmp).grownBy w1 v.ownBlock) :
    (Boxed w1 N 31 v ∧ Boxed (w1.setCell ⟨N, 0, none⟩ v') N 31 v' ∧ (w1.setCell ⟨N, 0, none⟩ v').ownsRow (N + 4) 9 1 v' m ys ∧ KeepsOthers W (w1.setCell ⟨N, 0, none⟩ v') ∧ Below N W (w1.setCell ⟨N, 0, none⟩ v')) ∧
    Boxed (w1.setCell ⟨N, 0, none⟩ v') (N + 1) 3 (.int .i64 (lastAt pre)) ∧ Boxed (w1.setCell ⟨N, 0, none⟩ v') (N + 2) 22 (.int .i64 e) ∧ Fl (w1.setCell ⟨N, 0, none⟩ v') Bx x ∧
    (W.cell? ⟨N + 3, 0, none⟩ = some (.string s) → (w1.setCell ⟨N, 0, none⟩ v').cell? ⟨N + 3, 0, none⟩ = some (.string s)) := by
  obtain ⟨p1, p2, p3, p4, p5⟩ := hv.appended (by decide) (own_lowI hrow (B' := N) (by omega)) (by omega) (Nat.le_refl _) (own_lowI hown' (B' := N) (by omega)) hgrow
  refine ⟨⟨p1, p2, hown'.kept (grownBy_setCell' w1 N v') (.inr (p1.not_row (by decide) hown').symm), p4, p5⟩, ?_, ?_, ?_, ?_⟩
  · exact ((b1.alloc tmp).kept hgrow (b1.not_row (by decide) hrow)).other (by omega) v'
  · exact ((b2.alloc tmp).kept hgrow (b2.not_row (by decide) hrow)).other (by omega) v'
  · exact ((hx.kept (World.grownBy_alloc W tmp none) (fun h => nomatch h)).kept hgrow (hx.not_row hrow)).kept (grownBy_setCell' w1 N v') (fun h => by cases h; omega)
  · intro c
    refine cell_far (grownBy_setCell' w1 N v') (fun h => by cases h) (cell_far hgrow (fun h => ?_) (cell_far (World.grownBy_alloc W tmp none) (fun h => nomatch h) c))
    have := own_blockI hrow _ h.symm
    omega

set_option maxRecDepth 100000 in
set_option maxHeartbeats 4000000 in
theorem all_any (s : ByteArray) (w : World) (ht : Tab w) (hs : s.size ≤ 8796093022207) :
    Calls Tryd.prog 9 #[.string s] w fun e w' => ∃ v l b c, e = .returned (.tuple #[v, .int .i64 b, .int .i64 c]) ∧ AllR s l b c ∧ w'.ownsRow w.heap.size 9 1 v l.length (l.flatMap strE) ∧ Below w.heap.size w w' := by
  obtain ⟨i0, hi, hz0, hz1, hz2⟩ := info_parts info_strI
  obtain ⟨N, hN⟩ : ∃ N, N = w.heap.size := ⟨_, rfl⟩
  have hN0 : 0 < N := by rw [hN]; exact tab_pos ht
  refine (callsIn_wide (n := 3)).1 ?_
  refine callsIn_of_wp_marks Tryd.func9 rfl trivial ?_ rfl
  simp only [Tryd.ntmps9, List.size_toArray, List.length_cons, List.length_nil, Nat.reduceAdd, Nat.reduceSub, Array.replicate_succ, Array.replicate_zero, List.push_toArray, List.append_toArray, List.nil_append, List.cons_append]
  have h1 : 1 ≤ (3 : Nat) := by omega
  have hN0' : 0 < N := hN0
  rw [← hN]
  have HN := Lib.hid hN; clear hN
  gi_wp2
  refine wpIn_wide.2 ?_
  refine wp_scope_jumps 0 (fun a' w' => ∃ (D : Nat) (v : Value) (l : List ByteArray) (b c : Int), a' = { tmps := #[.string s, undef, .slice none 0 0, .int .i64 0, .int .i64 0, .pointer (some ⟨N, 0, none⟩), .pointer (some ⟨N + 1, 0, none⟩), .pointer (some ⟨N + 1 + 1, 0, none⟩), undef, .string s, .func (.func 26) #[] #[.pointer (some ⟨N + 1 + 1 + 1, 0, none⟩)], undef, undef, undef, undef, undef, undef, undef, undef, undef, undef, undef, undef, undef, undef, undef, undef], defers := [{ target := .collected D, args := #[] }] } ∧
      N < D ∧ w'.heap[D]? = some (.deferred (some [])) ∧ AllR s l b c ∧ Boxed w' N 31 v ∧ w'.ownsRow (N + 4) 9 1 v l.length (l.flatMap strE) ∧ Boxed w' (N + 1) 3 (.int .i64 b) ∧ Boxed w' (N + 1 + 1) 22 (.int .i64 c) ∧ Below N w w') (fun _ _ => 0) rfl ?first ?pass
  case pass =>
    rintro a' w' ⟨D, v, l, b, c, rfl, hD, hK, hR, hv, hrow, hb, hc, hB⟩
    obtain ⟨ao, n, cap, rfl⟩ := own_slice hrow
    have c0 := hv.cell; have c1 := hb.cell; have c2 := hc.cell
    have HR := Lib.hid hR; have HROW := Lib.hid hrow; have HB := Lib.hid hB; have HK := Lib.hid hK
    clear hR hrow hB hK
    go_wp2
    go_quiet (fail)
    go_wp2
    refine ⟨by simp, .inl ⟨_, _, rfl, run_takeDeferred (w := w'.drewN nq) HK.out, ?_⟩⟩
    exact ⟨_, results_tmp3 rfl _ _ _, _, l, b, c, rfl, HR.out, ownsRow_putObj (W := w'.drewN nq) (own_lowI HROW.out (by omega)) _ HK.out rfl, (below_draws HB.out nq).trans (belowK_b (w := w) (by have := HN.out; omega) (w'.drewN nq) D _ _ (by have := HN.out; omega) HK.out rfl rfl)⟩
  case first =>
    refine (wpIn_wide (n := 3)).1 ?_
    gi_wp2_with (refine ⟨trivial, ?_⟩; refine (frames_any s _).mono ?_; rintro e w' ⟨rfl, rfl⟩)
    have bL := ((Boxed.new w 31 (.slice none 0 0)).alloc (.cells #[.int .i64 0] 3)).alloc (.cells #[.int .i64 0] 22)
    have bA := (Boxed.new (w.alloc (.cells #[.slice none 0 0] 31)) 3 (.int .i64 0)).alloc (.cells #[.int .i64 0] 22)
    have bE := Boxed.new ((w.alloc (.cells #[.slice none 0 0] 31)).alloc (.cells #[.int .i64 0] 3)) 22 (.int .i64 0)
    have bL := bL.alloc (.cells #[.string s] 9)
    have bA := bA.alloc (.cells #[.string s] 9)
    have bE := bE.alloc (.cells #[.string s] 9)
    have bS := Boxed.new (((w.alloc (.cells #[.slice none 0 0] 31)).alloc (.cells #[.int .i64 0] 3)).alloc (.cells #[.int .i64 0] 22)) 9 (.string s)
    have hB0 : Below w.heap.size w ((((w.alloc (.cells #[.slice none 0 0] 31)).alloc (.cells #[.int .i64 0] 3)).alloc (.cells #[.int .i64 0] 22)).alloc (.cells #[.string s] 9)) := ((((Below.refl _ w).alloc (Nat.le_refl _) _).alloc (by simp) _).alloc (by simp; omega) _).alloc (by simp; omega) _
    have hsz : ((((w.alloc (.cells #[.slice none 0 0] 31)).alloc (.cells #[.int .i64 0] 3)).alloc (.cells #[.int .i64 0] 22)).alloc (.cells #[.string s] 9)).heap.size = w.heap.size + 4 := by simp
    have hT0 := ht.below hB0
    simp only [World.size_alloc] at bA bE bS ⊢
    rw [← HN.out] at bL bA bE bS hB0 hsz ⊢
    obtain ⟨W0, hW0⟩ : ∃ W0, ((((w.alloc (.cells #[.slice none 0 0] 31)).alloc (.cells #[.int .i64 0] 3)).alloc (.cells #[.int .i64 0] 22)).alloc (.cells #[.string s] 9)) = W0 := ⟨_, rfl⟩
    rw [hW0] at bL bA bE bS hB0 hsz hT0 ⊢
    clear hW0
    have hNW : N ≤ W0.heap.size := by omega
    refine wpIn_rangeFunc_ownH rfl h1 (gf := 26) (lb := #[.pointer (some ⟨N + 1 + 1 + 1, 0, none⟩)]) rfl trivial (enters_of Tryd.func26 (by kernel_rfl) rfl)
      (iter_stops (N + 1 + 1 + 1) N s (by omega) W0 (by omega) hN0 bS.cell hT0) KpF.t (KpF.b (by omega)) (Below.refl _ _) (fun _ => rfl)
      (fun pre W => (IAll N pre W 0 ∧ (∀ x ∈ pre, x.2.2 = 0)) ∧ Below N w W)
      (fun c pre W => (∃ pre' x, c = .goto 0 ∧ pre = pre' ++ [x] ∧ IAll N pre' W x.2.2 ∧ (∀ y ∈ pre', y.2.2 = 0) ∧ x.2.2 ≠ 0) ∧ Below N w W)
      ?hI ?hIx ?h0
      (fun x a' W => ∃ Bx, N + 2 < Bx ∧ Fl W Bx x ∧ a' = { tmps := #[.string s, undef, .slice none 0 0, .int .i64 0, .int .i64 0, .pointer (some ⟨N, 0, none⟩), .pointer (some ⟨N + 1, 0, none⟩), .pointer (some ⟨N + 1 + 1, 0, none⟩), .pointer (some ⟨Bx, 0, none⟩), .string s, .func (.func 26) #[] #[.pointer (some ⟨N + 1 + 1 + 1, 0, none⟩)], encF x, undef, undef, undef, undef, undef, undef, undef, undef, undef, undef, undef, undef, undef, undef, undef], defers := [] })
      (fun x a' _ X Y row hs hg hr => by obtain ⟨Bx, h1, h2, h3⟩ := hs; exact ⟨Bx, h1, Fl.own Bx x () X Y row h2 hg (fun r e => (hr r e).2), h3⟩)
      ?assign ?body ?done ?stop
    case hI => exact fun s' X Y row hs' hg hr => ⟨⟨IAll.own N 0 s' X Y row hs'.1.1 hg (fun r e => (hr r e).2), hs'.1.2⟩, ownFrom_below (by have := HN.out; omega) hNW s' X Y row hs'.2 hg hr⟩
    case hIx =>
      rintro c s' X Y row ⟨⟨pre', x, h1, h2, h3, h4⟩, h5⟩ hg hr
      exact ⟨⟨pre', x, h1, h2, IAll.own N x.2.2 pre' X Y row h3 hg (fun r e => (hr r e).2), h4⟩, ownFrom_below (by have := HN.out; omega) hNW s' X Y row h5 hg hr⟩
    case h0 => exact ⟨⟨⟨⟨⟨_, bL, World.ownsRow_nil _ _ _ _, trivial⟩, bA⟩, bE⟩, by simp⟩, hB0⟩
    case assign =>
      rintro l pre ⟨t, nx, e⟩ W K ⟨⟨hIA, hg⟩, hB⟩ hK
      have HG := Lib.hid hg; have HSZ := Lib.hid hsz; clear hg hsz
      have hlt2 : N + 2 < W.heap.size := hIA.2.lt
      dsimp only [encF]
      gi_wp2
      exact hK _ _ ((KeepsOthers.alloc _ _).from _) ⟨(Below.refl _ W).alloc (by omega) _, fun c => cell_far (World.grownBy_alloc W _ none) (fun h => nomatch h) c⟩ ⟨⟨hIA.alloc _, HG.out⟩, hB.alloc (by omega) _⟩ ⟨W.heap.size, hlt2, World.alloc_heap_new W _, rfl⟩
    case body =>
      rintro l pre ⟨t, nx, e⟩ a' W hl ⟨r, hr⟩ ⟨⟨⟨⟨⟨v, hv, hrow, -⟩, b1⟩, b2⟩, hg⟩, hB⟩ ⟨Bx, hBx, hx, rfl⟩ hlt
      obtain ⟨x0, x1, x2⟩ := hx.cell
      dsimp only at x0 x1 x2
      dsimp only [encF]
      have hBl := hx.lt
      have hB4 : N + 4 ≤ W.heap.size := by omega
      have hlt' : (txt pre).length < s.size := by rw [txt_len]; exact hlt
      have cv := hv.cell; have c1 := b1.cell; have f1 := b1.frozen; have c2 := b2.cell; have f2 := b2.frozen
      have HG := Lib.hid hg; have HSZ := Lib.hid hsz; have HBB := Lib.hid hB
      clear hg hsz hB
      by_cases he : e = 0
      · subst he
        gi_wp2_with (gi_at_builtin; refine wpListIn_append_own _ rfl _ _ 31 rfl (N + 4) 9 i0 (.string ⟨#[]⟩) 1 16 Tryd.underlying31 hi hz0 hz1 hz2 rfl (by decide) _ _ _ rfl (hrow.alloc _) ⟨W.heap.size, 0, none⟩ 1 1 [.string t] rfl rfl (cell_one_new _ _ _) (by simp [Value.oneCell']) (by unfold maxLen; omega) (by omega) (by simp; omega) ?_; intro v' w1 hown' hgrow _; obtain ⟨g', cap', rfl⟩ := ownsRow_succ hown'; obtain ⟨⟨p1, p2, p3, p4, p5⟩, q1, q2, q3, q4⟩ := appended (s := s) hB4 hv hrow b1 b2 hx hBx hown' hgrow; have hc1 := p1.cell; have hf1 := p1.frozen; have hc2 := q1.cell; have hf2 := q1.frozen; have hx1 := q3.cell.2.1; dsimp only at hx1)
        have g3 := grownBy_setCell' (w1.setCell ⟨N, 0, none⟩ (.slice (some ⟨g', 0, none⟩) ((txt pre).length + 1) cap')) (N + 1) (.int .i64 nx)
        have hb3 := p5.setCell (p := ⟨N + 1, 0, none⟩) (Nat.le_succ N) (.int .i64 nx)
        refine ⟨(p4.trans (KeepsOthers.setCell _ _ _)).from _, ⟨hb3, fun c => cell_far g3 (fun h => by cases h) (q4 c)⟩, ⟨⟨⟨⟨_, p2.other (by omega) _, ?_, trivial⟩, ?_⟩, q2.other (by omega) _⟩, ?_⟩, HBB.out.trans hb3⟩
        · rw [txt_snoc, List.length_append, List.flatMap_append]
          exact p3.kept g3 (.inr (q1.not_row (by decide) p3).symm)
        · rw [lastAt_snoc]; exact q1.set _
        · intro y hy
          rcases List.mem_append.1 hy with hy | hy
          · exact HG.out y hy
          · simp only [List.mem_singleton] at hy; subst hy; rfl
      · have hne : (e != 0) = true := by simpa using he
        have HE := Lib.hid he; clear he
        gi_wp2
        refine wpIn_goto ?_
        have g3 := grownBy_setCell' W (N + 2) (.int .i64 e)
        have hb3 := (Below.refl N W).setCell (p := ⟨N + 2, 0, none⟩) (by simp) (.int .i64 e)
        exact ⟨(KeepsOthers.setCell _ _ _).from _, ⟨pre, (t, nx, e), rfl, rfl, ⟨⟨⟨v, hv.other (by omega) _, hrow.kept g3 (.inr (b2.not_row (by decide) hrow).symm), trivial⟩, b1.other (by omega) _⟩, b2.set _⟩, HG.out, HE.out⟩, HBB.out.trans hb3⟩
    case done =>
      rintro D ys W hD hS ⟨⟨⟨⟨⟨v, hv, hrow, -⟩, b1⟩, b2⟩, hg⟩, hB⟩ hK
      have hR : AllR s (txt ys) (lastAt ys) 0 := by
        rcases hS with ⟨b, hrun, hge⟩ | ⟨ys', b, rfl, hrun, hlt, hne⟩
        · rw [hrun.last]; exact ⟨hrun.run, .inl ⟨hge, rfl⟩⟩
        · exact absurd (hg (nextR s b) (by simp)) hne
      have hDN : N < D := by omega
      obtain ⟨ao, n, cap, rfl⟩ := own_slice hrow
      have c0 := hv.cell; have c1 := b1.cell; have c2 := b2.cell
      have HR := Lib.hid hR; have HROW := Lib.hid hrow; have HB := Lib.hid hB; have HK := Lib.hid hK; have HSZ := Lib.hid hsz
      clear hR hrow hB hK hS hg hsz
      gi_wp2
      refine wpIn_label ?_
      gi_wp2
      refine wpIn_wide.2 ?_
      go_quiet (fail)
      gi_wp2
      refine ⟨by simp, .inl ⟨_, _, rfl, run_takeDeferred (w := W.drewN nq) HK.out, ?_⟩⟩
      exact ⟨_, results_tmp3 rfl _ _ _, _, txt ys, lastAt ys, 0, rfl, HR.out, ownsRow_putObj (W := W.drewN nq) (own_lowI HROW.out (by omega)) _ HK.out rfl, (below_draws HB.out nq).trans (belowK_b (w := w) (by have := HN.out; omega) (W.drewN nq) D _ _ (by have := HN.out; omega) HK.out rfl rfl)⟩
    case stop =>
      rintro D c pre W hD ⟨ys', b, rfl, hrun, hlt⟩ ⟨⟨pre', x, rfl, h2, ⟨⟨⟨v, hv, hrow, -⟩, b1⟩, b2⟩, hg, hne⟩, hB⟩ hK
      obtain ⟨rfl, h3⟩ := List.append_inj' h2 rfl
      obtain rfl : nextR s b = x := by simpa using h3
      refine wpIn_goto ?_
      exact ⟨rfl, D, v, txt ys', lastAt ys', _, rfl, by omega, hK, ⟨by rw [hrun.last]; exact hrun.run, by rw [hrun.last]; exact .inr ⟨hlt, rfl, hne⟩⟩, hv, hrow, b1, b2, hB⟩
end Go.Proofs.YtlchdphgnmcaeaaDoor
