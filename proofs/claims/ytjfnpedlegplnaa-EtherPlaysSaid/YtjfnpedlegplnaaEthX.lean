/- Package ether: All of one that was made. Conditions: at most 1000 packets. -/
import Derived.Test.YtjfnpedlegplnaaEthW
namespace Go.Proofs.Ytjfnpedlegplnaa
open Go.RowKit Go.Shelf
attribute [local go_sem] Oper.semAt_some

/-- The variable of the loop. -/
def Pl (W : World) (B : Nat) (x : PktT) : Prop := W.heap[B]? = some (.cells #[.int .i64 x.1, .int .i64 x.2.1, .string x.2.2] 110 (0, 0))
theorem Pl.lt {W : World} {B : Nat} {x : PktT} (h : Pl W B x) : B < W.heap.size := (Array.getElem?_eq_some_iff.1 h).1
theorem Pl.kept {W W' : World} {row : Option Nat} {B : Nat} {x : PktT} (h : Pl W B x) (hg : W.grownBy W' row) (hne : some B ≠ row) : Pl W' B x := (hg.block B h.lt hne).trans h
theorem Pl.own (B : Nat) (x : PktT) : Own (fun (_ : Unit) W => Pl W B x) := fun _ X Y row hs hg hrow =>
  hs.kept hg (fun e' => by obtain ⟨o, ho, hc⟩ := hrow B e'.symm; rw [show X.heap[B]? = _ from hs] at ho; cases ho; cases hc)
abbrev IAe (N : Nat) (pre : List PktT) (W : World) : Prop := ∃ v, Boxed W N 106 v ∧ W.ownsRow (N + 2) 110 3 v pre.length (pre.flatMap pktE) ∧ True
/-- The append, and what it leaves. -/
theorem appendedE {W w1 : World} {N : Nat} {v v' : Value} {k m : Nat} {xs ys : List Value} {tmp : Obj} (hB : N + 2 ≤ W.heap.size)
    (hv : Boxed W N 106 v) (hrow : W.ownsRow (N + 2) 110 3 v k xs)
    (hown' : w1.ownsRow (N + 2) 110 3 v' m ys) (hgrow : (W.alloc tmp).grownBy w1 v.ownBlock) :
    Boxed w1 N 106 v ∧ Boxed (w1.setCell ⟨N, 0, none⟩ v') N 106 v' ∧ (w1.setCell ⟨N, 0, none⟩ v').ownsRow (N + 2) 110 3 v' m ys ∧ KeepsOthers W (w1.setCell ⟨N, 0, none⟩ v') ∧ Below N W (w1.setCell ⟨N, 0, none⟩ v') := by
  obtain ⟨p1, p2, p3, p4, p5⟩ := hv.appended (by decide) (own_lowE hrow (B' := N) (by omega)) (by omega) (Nat.le_refl _) (own_lowE hown' (B' := N) (by omega)) hgrow
  exact ⟨p1, p2, hown'.kept (grownBy_setCell' w1 N v') (.inr (p1.not_row (by decide) hown').symm), p4, p5⟩

set_option maxRecDepth 100000 in
set_option maxHeartbeats 4000000 in
theorem eall_made (w : World) (b : Nat) (v : Value) (l : List PktT) (n : Int) (h : Eth w b v l n) (hl : l.length ≤ 1000) :
    Calls Try.prog 71 #[.pointer (some ⟨b, 0, none⟩)] w fun e w' => ∃ u, e = .returned u ∧ w'.ownsRow w.heap.size 110 3 u l.length (l.flatMap pktE) ∧ Below w.heap.size w w' := by
  obtain ⟨i0, hi, hz0, hz1, hz2⟩ := info_parts info_pkt
  have HE := Lib.hid h
  have HS := Lib.hid h.slice
  have hbl := h.lt
  have c1 := h.c1
  obtain ⟨ao, cap, rfl, hcap, hcm, _, _⟩ := h.slice
  clear h
  obtain ⟨N, hN⟩ : ∃ N, N = w.heap.size := ⟨_, rfl⟩
  refine (callsIn_wide (n := 3)).1 ?_
  refine callsIn_of_wp_marks Try.func71 rfl trivial ?_ rfl
  simp only [Try.ntmps71, List.size_toArray, List.length_cons, List.length_nil, Nat.reduceAdd, Nat.reduceSub, Array.replicate_succ, Array.replicate_zero, List.push_toArray, List.append_toArray, List.nil_append, List.cons_append]
  have h1 : 1 ≤ (3 : Nat) := by omega
  rw [← hN]
  have HN := Lib.hid hN; clear hN
  gi_wp2_with (first
    | (refine ⟨trivial, ?_⟩; gi_at_call 103; refine (callsIn_wide.2 (zero_made _ _ _ _ _ HE.out)).mono ?_; rintro e w1 ⟨rfl, rfl⟩)
    | (refine ⟨trivial, ?_⟩; gi_at_call 110; refine (each_any b _).mono ?_; rintro e w' ⟨rfl, rfl⟩))
  have bL := (Boxed.new w 106 (.slice none 0 0)).alloc (.cells #[.pointer (some ⟨b, 1, none⟩)] 188)
  have x0 := Boxed.new (w.alloc (.cells #[.slice none 0 0] 106)) 188 (.pointer (some ⟨b, 1, none⟩))
  have hB0 : Below w.heap.size w ((w.alloc (.cells #[.slice none 0 0] 106)).alloc (.cells #[.pointer (some ⟨b, 1, none⟩)] 188)) := ((Below.refl _ w).alloc (Nat.le_refl _) _).alloc (by simp) _
  have hsz : ((w.alloc (.cells #[.slice none 0 0] 106)).alloc (.cells #[.pointer (some ⟨b, 1, none⟩)] 188)).heap.size = w.heap.size + 2 := by simp
  have hc0 := cell_below hB0 c1
  simp only [World.size_alloc] at x0 ⊢
  obtain ⟨W0, hW0⟩ : ∃ W0, ((w.alloc (.cells #[.slice none 0 0] 106)).alloc (.cells #[.pointer (some ⟨b, 1, none⟩)] 188)) = W0 := ⟨_, rfl⟩
  rw [hW0] at bL x0 hB0 hsz hc0 ⊢
  have hst := eiter_stops (w.heap.size + 1) b ao cap l w W0 hl hB0 x0.cell hc0 HS.out
  rw [← HN.out] at bL hB0 hsz hst ⊢
  clear hW0
  have hNW : N ≤ W0.heap.size := by omega
  refine wpIn_rangeFunc_ownH rfl h1 (gf := 124) (lb := #[.pointer (some ⟨N + 1, 0, none⟩)]) rfl trivial (enters_of Try.func124 (by kernel_rfl) rfl)
    hst (fun h k => h.trans k) (belowK_b (by omega)) (Below.refl _ _) (fun _ => rfl)
    (fun pre W => IAe N pre W ∧ Below N w W) (fun _ _ _ => False) ?hI (fun _ _ _ _ _ hs _ _ => hs) ⟨⟨_, bL, World.ownsRow_nil _ _ _ _, trivial⟩, hB0⟩
    (fun x a' W => ∃ Bx, N < Bx ∧ Pl W Bx x ∧ a' = { tmps := #[.pointer (some ⟨b, 0, none⟩), undef, .slice none 0 0, .pointer (some ⟨N, 0, none⟩), .pointer (some ⟨Bx, 0, none⟩), .pointer (some ⟨b, 0, none⟩), .bool false, .pointer (some ⟨b, 0, none⟩), .pointer (some ⟨b, 0, none⟩), .pointer (some ⟨b, 1, none⟩), .func (.func 124) #[] #[.pointer (some ⟨N + 1, 0, none⟩)], pktV x, undef, undef, undef, undef, undef], defers := [] })
    (fun x a' _ X Y row hs hg hr => by obtain ⟨Bx, h1, h2, h3⟩ := hs; exact ⟨Bx, h1, Pl.own Bx x () X Y row h2 hg (fun r e => (hr r e).2), h3⟩)
    ?assign ?body ?done ?stop
  case hI => exact fun s' X Y row hs' hg hr => ⟨holdsRow_own (N + 2) N 106 110 3 (fun pre : List PktT => pre.length) (fun pre => pre.flatMap pktE) (fun _ _ => True) s' X Y row hs'.1 hg (fun r e => (hr r e).2), ownFrom_below (by have := HN.out; omega) hNW s' X Y row hs'.2 hg hr⟩
  case assign =>
    rintro lp pre ⟨fr, to, bd⟩ W K ⟨⟨v, hv, hrow, -⟩, hB⟩ hK
    have HSZ := Lib.hid hsz; clear hsz
    have hlt2 := hv.lt
    dsimp only [pktV]
    gi_wp2
    have hNs : N ≤ W.heap.size := by omega
    exact hK _ _ ((KeepsOthers.alloc _ _).from _) ((Below.refl _ W).alloc (by have := HN.out; omega) _) ⟨⟨v, hv.alloc _, hrow.alloc _, trivial⟩, hB.alloc hNs _⟩ ⟨W.heap.size, hlt2, World.alloc_heap_new W _, rfl⟩
  case body =>
    rintro lp pre ⟨fr, to, bd⟩ a' W hlp ⟨r, hr⟩ ⟨⟨v, hv, hrow, -⟩, hB⟩ ⟨Bx, hBx, hx, rfl⟩ hlt
    have hB4 : N + 2 ≤ W.heap.size := by have := (Array.getElem?_eq_some_iff.1 hr).1; omega
    have cv := hv.cell
    obtain ⟨⟨x0, x1, x2⟩, _⟩ := three_cells (show W.heap[Bx]? = some (.cells #[.int .i64 fr, .int .i64 to, .string bd] 110 (0, 0)) from hx)
    dsimp only [pktV]
    have HSZ := Lib.hid hsz; have HBB := Lib.hid hB
    clear hsz hB
    gi_wp2_with (gi_at_builtin; refine wpListIn_append_own _ rfl _ _ 106 rfl (N + 2) 110 i0 (.agg #[.int .i64 0, .int .i64 0, .string ⟨#[]⟩]) 3 32 Try.underlying106 hi hz0 hz1 hz2 rfl (by decide) _ _ _ rfl (hrow.alloc _) ⟨W.heap.size, 0, none⟩ 1 1 [.int .i64 fr, .int .i64 to, .string bd] rfl rfl (World.news_of_block (World.alloc_heap_new _ _)) (by simp [Value.oneCell']) (by unfold maxLen; omega) (by omega) (by simp; omega) ?_; intro v' w1 hown' hgrow _; obtain ⟨g', cap', rfl⟩ := ownsRow_succ hown'; obtain ⟨p1, p2, p3, p4, p5⟩ := appendedE hB4 hv hrow hown' hgrow; have hc1 := p1.cell; have hf1 := p1.frozen)
    refine ⟨p4.from _, p5, ⟨⟨_, p2, ?_, trivial⟩, HBB.out.trans p5⟩⟩
    rw [List.length_append, List.flatMap_append]
    exact p3
  case done =>
    rintro D ys W hD hS ⟨⟨v, hv, hrow, -⟩, hB⟩ hK
    have hys : ys = l := hS
    subst hys
    have hc := hv.cell
    have HROW := Lib.hid hrow; have HB := Lib.hid hB; have HK := Lib.hid hK; have HSZ := Lib.hid hsz
    clear hrow hB hK hsz hS
    gi_wp2
    refine ⟨by simp, .inl ⟨_, _, rfl, run_takeDeferred HK.out, ?_⟩⟩
    exact ⟨_, results_tmp rfl _ _ _, _, rfl, ownsRow_putObj (own_lowE HROW.out (by omega)) _ HK.out rfl, HB.out.trans (belowK_b (w := w) (by have := HN.out; omega) W D _ _ (by have := HN.out; omega) HK.out rfl rfl)⟩
  case stop =>
    rintro D c pre W _ _ h _
    exact h.elim
end Go.Proofs.Ytjfnpedlegplnaa
