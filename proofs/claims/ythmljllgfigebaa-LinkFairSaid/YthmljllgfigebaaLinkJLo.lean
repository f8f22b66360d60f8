/- Package link: Out. Conditions: none. -/
import Derived.Test.YthmljllgfigebaaLinkILo
namespace Go.Proofs.Ythmljllgfigebaa
open Go.RowKit Go.Shelf
attribute [local go_sem] Oper.semAt_some
set_option linter.unusedVariables false
theorem info_segL : (Try.prog.info? 61).map (fun i => (i.zero, i.size, i.bytes)) = some (some (.agg #[.int .i64 0, .int .i64 0, .int .i64 0, .int .i64 0, .int .i64 0, .int .i64 0, .bool false, .string ⟨#[]⟩]), 8, 72) := by kernel_rfl
theorem KT.row {n₀ B₀ B k : Nat} {X Y : World} {v : Value} {xs : List Value} (hr : X.ownsRow B 61 8 v k xs) (hB : n₀ ≤ B) (hn : n₀ ≤ X.heap.size) (hg : X.grownBy Y v.ownBlock) : KT n₀ B₀ X Y := by
  refine ⟨(Below.refl n₀ X).grown hg hn (fun j e => Nat.le_trans hB (hr.lt j e).1), fun i T cs hb h1 h2 => hb.kept hg (fun e => ?_), fun i o hB0 ho hc => (hg.block i (Array.getElem?_eq_some_iff.1 ho).1 (fun e => ?_)).trans ho⟩
  · obtain ⟨cs2, h3⟩ := row_block hr e
    unfold Blk at hb; rw [hb] at h3; cases h3; exact h1 rfl
  · obtain ⟨cs2, h3⟩ := row_block hr e.symm
    rw [ho] at h3; cases h3; cases hc
theorem KT.set {n₀ B₀ N : Nat} {X : World} {u v : Value} (h : Boxed X N 67 u) (hn : n₀ ≤ N) : KT n₀ B₀ X (X.setCell ⟨N, 0, none⟩ v) := by
  have hg := grownBy_setCell' X N v
  have hl := h.lt
  refine ⟨(Below.refl n₀ X).grown hg (by omega) (fun j e => by cases e; exact hn), fun i T cs hb h1 h2 => hb.kept hg (fun e => ?_), fun i o hB0 ho hc => (hg.block i (Array.getElem?_eq_some_iff.1 ho).1 (fun e => ?_)).trans ho⟩
  · cases e; unfold Blk at hb; rw [show X.heap[N]? = _ from h] at hb; cases hb; exact h2 rfl
  · cases e; rw [show X.heap[N]? = _ from h] at ho; cases ho; cases hc
theorem own_lowL {w : World} {B B' : Nat} {e : TypeId} {k : Nat} {v : Value} {n : Nat} {xs : List Value} (h : w.ownsRow B e k v n xs) (hb : B' ≤ B) : w.ownsRow B' e k v n xs := row_lows h hb
theorem own_sliceL {W : World} {base : Nat} {e : TypeId} {size : Nat} {v : Value} {k : Nat} {xs : List Value} (h : W.ownsRow base e size v k xs) : ∃ ao n cap, v = .slice ao n cap := by
  rcases h.2 with ⟨rfl, _⟩ | ⟨g, cap, cur, rfl, _⟩
  · exact ⟨_, _, _, rfl⟩
  · exact ⟨_, _, _, rfl⟩
theorem segsL_len (L : LnT) (f t : Nat) (ht : t ≤ 8) : (segsL L f t).length ≤ 8 := by
  unfold segsL
  split
  · split <;> simp
  · unfold outsL; rw [List.length_map, eachL_len]; omega
/-- The variable of the loop. -/
def Ql (W : World) (B : Nat) (x : SegT) : Prop := W.heap[B]? = some (.cells #[.int .i64 x.boot, .int .i64 x.stream, .int .i64 x.seq, .int .i64 x.ab, .int .i64 x.ast, .int .i64 x.asq, .bool x.has, .string x.body] 61 (0, 0))
theorem Ql.lt {W : World} {B : Nat} {x : SegT} (h : Ql W B x) : B < W.heap.size := (Array.getElem?_eq_some_iff.1 h).1
theorem Ql.own (B : Nat) (x : SegT) : Own (fun (_ : Unit) W => Ql W B x) := fun _ X Y row hs hg hrow =>
  (hg.block B (Ql.lt hs) (fun e' => by obtain ⟨o, ho, hc⟩ := hrow B e'.symm; rw [show X.heap[B]? = _ from hs] at ho; cases ho; cases hc)).trans hs
theorem grown_but' {row : Option Nat} {w x : World} (h : w.grownBy x row) : But (fun k => row = some k) w x := ⟨h.os, h.tape, h.output, h.size, fun k hk hn => h.block k hk (fun e => hn e.symm)⟩
set_option maxRecDepth 100000 in
set_option maxHeartbeats 4000000 in
theorem lkOut_false (S : Nat → Prop) (w : World) (b : Nat) (u : Value) (L : LnT) (h : LkU 102 S w b u L) :
    Calls Try.prog 37 #[.pointer (some ⟨b, 0, none⟩), .bool false] w fun e w' => ∃ v, e = .returned v ∧ LkU 102 S w' b u (outN L) ∧ Grew S S w w' ∧ w'.ownsRow w.heap.size 61 8 v (outT L false).length ((outT L false).flatMap segE) := by
  obtain ⟨i0, hi, hz0, hz1, hz2⟩ := info_parts info_segL
  obtain ⟨f0, hf0⟩ : ∃ f : Nat, L.told = (f : Int) := ⟨L.told.toNat, by have := h.ok.told; omega⟩
  obtain ⟨t, htt⟩ : ∃ t : Nat, t = L.to := ⟨_, rfl⟩
  have hto := L.to_le
  rw [← htt] at hto
  have h8 := h.ok.len; have h4 := h.ok.told
  have hSS := h.2.2.1; have hub := h.2.2.2.1
  have hbl := h.blk.lt
  have c4 : w.cell? ⟨b, 4, none⟩ = some (.int .i64 (f0 : Int)) := by rw [← hf0]; exact h.blk.cell (k := 4) rfl
  have c3 : w.cell? ⟨b, 3, none⟩ = some u := h.blk.cell (k := 3) rfl
  have hmin : min (4 : Int) (L.q.length : Int) = (t : Int) := by rw [htt]; unfold LnT.to; omega
  have hfr : (segsL L f0 t) = outT L false := by unfold outT LnT.fr; rw [htt]; simp; try (rw [hf0]; rfl)
  have hsl := h.sl
  obtain ⟨ao, cap, rfl, hc1, hc2, -, -⟩ := hsl
  obtain ⟨N, hN⟩ : ∃ N, N = w.heap.size := ⟨_, rfl⟩
  obtain ⟨V, hV⟩ : ∃ V, V = (w.alloc (.cells #[.slice none 0 0] 67)).drew := ⟨_, rfl⟩
  have bO : Boxed V N 67 (.slice none 0 0) := by rw [hV, hN]; exact (Boxed.new w _ _).kept (drew_grown _) (by simp)
  have hBV : Below w.heap.size w V := by rw [hV]; exact ((Below.refl _ w).alloc (Nat.le_refl _) _).trans ((grown_below (drew_grown _)).mono (by simp))
  have hVz : V.heap.size = N + 1 := by rw [hV, hN]; show (w.alloc _).heap.size = _; simp
  have H := Lib.hid h; have HT := Lib.hid htt; have HF := Lib.hid hf0; have HFR := Lib.hid hfr; have HBV := Lib.hid hBV; have BO := Lib.hid bO; have HVZ := Lib.hid hVz; have HSS := Lib.hid hSS; have HUB := Lib.hid hub; have HN := Lib.hid hN
  clear h hf0 htt hfr hBV bO hVz hSS hub hN
  refine (callsIn_wide (n := 3)).1 ?_
  refine callsIn_of_wp_marks Try.func37 rfl trivial ?_ rfl
  simp only [Try.ntmps37, List.size_toArray, List.length_cons, List.length_nil, Nat.reduceAdd, Nat.reduceSub, Array.replicate_succ, Array.replicate_zero, List.push_toArray, List.append_toArray, List.nil_append, List.cons_append]
  have hmix : Try.prog.follows .mixedOrders = true := by kernel_rfl
  gi_wp2_with (refine ⟨trivial, ?_⟩; gi_at_call 71; refine (callsIn_wide.2 (lkZero_blk b _ L w H.out.blk H.out.ok)).mono ?_; rintro e w1 ⟨rfl, rfl⟩)
  apply reg_cut
  · gi_region_with_o (fail)
    all_goals exact ⟨rfl, rfl⟩
  gi_wp2_with fail
  rw [← hV, ← HN.out]; clear hV
  refine ⟨trivial, ?_⟩
  refine (callsIn_wide.2 (callsIn_wide.1 (segments_any b f0 t V))).mono ?_
  rintro e w' ⟨rfl, rfl⟩
  gi_wp2_with fail
  obtain ⟨W0, hW0⟩ : ∃ W0, W0 = ((V.alloc (.cells #[pt b 0] 53)).alloc (.cells #[.int .i64 (f0 : Nat)] 3)).alloc (.cells #[.int .i64 t] 3) := ⟨_, rfl⟩
  have bl : Boxed W0 V.heap.size 53 (pt b 0) := by rw [hW0]; exact ((Boxed.new V _ _).alloc _).alloc _
  have bf : Boxed W0 (V.heap.size + 1) 3 (.int .i64 (f0 : Nat)) := by
    have h := (Boxed.new (V.alloc (.cells #[pt b 0] 53)) 3 (.int .i64 (f0 : Nat))).alloc (.cells #[.int .i64 t] 3)
    rw [World.size_alloc] at h; rw [hW0]; exact h
  have bt : Boxed W0 (V.heap.size + 1 + 1) 3 (.int .i64 t) := by
    have h := Boxed.new ((V.alloc (.cells #[pt b 0] 53)).alloc (.cells #[.int .i64 (f0 : Nat)] 3)) 3 (.int .i64 t)
    rw [World.size_alloc, World.size_alloc] at h; rw [hW0]; exact h
  have hb0 : Below V.heap.size V W0 := by rw [hW0]; exact (((Below.refl _ V).alloc (Nat.le_refl _) _).alloc (by simp) _).alloc (by simp; omega) _
  have hz0' : W0.heap.size = N + 4 := by rw [hW0]; have := HVZ.out; simp; omega
  rw [← hW0]; clear hW0
  have bO0 := BO.out.kept (below_grown hb0) (by simp)
  have hBw : Below N w W0 := HN.out ▸ HBV.out.trans (hb0.mono (HBV.out.size))
  have hO0 := H.out.gr (below_grown (HN.out ▸ hBw)) (fun q e => nomatch e)
  have hSN : ∀ q, S q → q < N := fun q hq => by rw [HN.out]; exact H.out.ofS q hq
  have hNW : N ≤ W0.heap.size := by omega
  have HSN := Lib.hid hSN; have HZ := Lib.hid hz0'; have HNW := Lib.hid hNW
  refine rf_all (gf := 106) (lb := #[.pointer (some ⟨V.heap.size, 0, none⟩), .pointer (some ⟨V.heap.size + 1, 0, none⟩), .pointer (some ⟨V.heap.size + 1 + 1, 0, none⟩)]) rfl (enters_of Try.func106 (by kernel_rfl) rfl)
    (segs_seq N _ _ _ b S _ L (f0) t W0 hO0 hSN (by omega) (by omega) bl bf bt) (fun _ => rfl) KT.trans (fun X o o' h hc => KT.putObj o' h hc (by omega) (by omega))
    (fun pre X => (∃ v, Boxed X N 67 v ∧ X.ownsRow (N + 4) 61 8 v pre.length (pre.flatMap segE) ∧ True) ∧ Below N w X) ?hI ⟨⟨_, bO0, World.ownsRow_nil _ _ _ _, trivial⟩, hBw⟩
    (fun x a' X => ∃ Bx, N < Bx ∧ Ql X Bx x ∧ a' = { tmps := #[.pointer (some ⟨b, 0, none⟩), .bool false, undef, undef, .slice none 0 0, .int .i64 (f0 : Int), .int .i64 t, .pointer (some ⟨N, 0, none⟩), .pointer (some ⟨Bx, 0, none⟩), .pointer (some ⟨b, 0, none⟩), .bool false, .pointer (some ⟨b, 0, none⟩), .pointer (some ⟨b, 0, none⟩), .pointer (some ⟨b, 4, none⟩), .int .i64 (f0 : Int), .pointer (some ⟨b, 0, none⟩), .pointer (some ⟨b, 0, none⟩), .pointer (some ⟨b, 2, none⟩), .pointer (some ⟨b, 3, none⟩), .slice ao L.q.length cap, .int .i64 (L.q.length : Int), .int .i64 t, .bool false, .pointer (some ⟨b, 0, none⟩), .int .i64 (f0 : Int), .int .i64 t, .func (.func 106) #[] #[.pointer (some ⟨V.heap.size, 0, none⟩), .pointer (some ⟨V.heap.size + 1, 0, none⟩), .pointer (some ⟨V.heap.size + 1 + 1, 0, none⟩)], segV x, undef, undef, undef, undef, undef, undef, undef, undef, undef, undef, undef, undef, undef, undef, undef, undef, undef], defers := [] })
    (fun x a' _ X Y row hs hg hr => by obtain ⟨Bx, h1, h2, h3⟩ := hs; exact ⟨Bx, h1, Ql.own Bx x () X Y row h2 hg (fun r e => (hr r e).2), h3⟩)
    ?assign ?body ?done
  case hI => exact fun s' X Y row hs' hg hr => ⟨holdsRow_own (N + 4) N 67 61 8 (fun pre : List SegT => pre.length) (fun pre => pre.flatMap segE) (fun _ _ => True) s' X Y row hs'.1 hg (fun r e => (hr r e).2), ownFrom_below (by have := HN.out; omega) hNW s' X Y row hs'.2 hg hr⟩
  case assign =>
    rintro lp pre ⟨x1, x2, x3, x4, x5, x6, x7, x8⟩ X K ⟨⟨v, hv, hrow, -⟩, hB⟩ hK
    have hlt2 := hv.lt
    clear hz0' hb0 bl bf bt hBw hO0 hSN bO0
    dsimp only [segV]
    gi_wp2
    have hNs : N ≤ X.heap.size := by omega
    exact hK _ _ ((KeepsOthers.alloc _ _).from _) (KT.of_below ((Below.refl _ X).alloc (Nat.le_refl _) _) hNs) ⟨⟨v, hv.alloc _, hrow.alloc _, trivial⟩, hB.alloc hNs _⟩ ⟨X.heap.size, hlt2, World.alloc_heap_new X _, rfl⟩
  case body =>
    rintro lp pre ⟨x1, x2, x3, x4, x5, x6, x7, x8⟩ a' X hlp hlt ⟨⟨v, hv, hrow, -⟩, hB⟩ ⟨Bx, hBx, hx, rfl⟩ hp
    have hB4 : N + 4 ≤ X.heap.size := by omega
    have hpl : pre.length < 8 := by have := hp.length_le; have := segsL_len L (f0) t (by omega); simp at *; omega
    have cv := hv.cell
    have q0 := Blk.cell (k := 0) hx rfl; have q1 := Blk.cell (k := 1) hx rfl; have q2 := Blk.cell (k := 2) hx rfl; have q3 := Blk.cell (k := 3) hx rfl; have q4 := Blk.cell (k := 4) hx rfl; have q5 := Blk.cell (k := 5) hx rfl; have q6 := Blk.cell (k := 6) hx rfl; have q7 := Blk.cell (k := 7) hx rfl
    dsimp only at q0 q1 q2 q3 q4 q5 q6 q7
    have hqr : X.rangeAt Bx 0 [.int .i64 x1, .int .i64 x2, .int .i64 x3, .int .i64 x4, .int .i64 x5, .int .i64 x6, .bool x7, .string x8] := Blk.all hx
    have HX := Lib.hid hx
    dsimp only [segV]
    have HBB := Lib.hid hB
    clear hB hp hx hz0' hb0 bl bf bt hBw hO0 hSN bO0
    gi_wp2_with (gi_at_builtin; refine wpListIn_append_own _ rfl _ _ 67 rfl (N + 4) 61 i0 (.agg #[.int .i64 0, .int .i64 0, .int .i64 0, .int .i64 0, .int .i64 0, .int .i64 0, .bool false, .string ⟨#[]⟩]) 8 72 Try.underlying67 hi hz0 hz1 hz2 rfl (by decide) _ _ _ rfl (hrow.alloc _) ⟨X.heap.size, 0, none⟩ 1 1 [.int .i64 x1, .int .i64 x2, .int .i64 x3, .int .i64 x4, .int .i64 x5, .int .i64 x6, .bool x7, .string x8] rfl rfl (World.news_of_block (World.alloc_heap_new _ _)) (by simp [Value.oneCell']) (by unfold maxLen; omega) (by omega) (by simp; omega) ?_; intro v' w1 hown' hgrow _; obtain ⟨g', cap', rfl⟩ := ownsRow_succ hown'; obtain ⟨p1, p2, p3, p4, p5⟩ := hv.appended (by decide) (own_lowL hrow (B' := N) (by omega)) (by omega) (Nat.le_refl _) (own_lowL hown' (B' := N) (by omega)) hgrow; have hc1 := p1.cell; have hf1 := p1.frozen)
    refine ⟨p4.from _, ?_, ⟨⟨_, p2, ?_, trivial⟩, HBB.out.trans (p5.mono (by omega))⟩⟩
    · exact ((KT.of_below ((Below.refl _ X).alloc (Nat.le_refl _) _) (by omega)).trans (KT.row (hrow.alloc _) (by omega) (by simp; omega) hgrow)).trans (KT.set p1 (Nat.le_refl _))
    · rw [List.length_append, List.flatMap_append]
      exact hown'.kept (grownBy_setCell' w1 N _) (.inr (p1.not_row (by decide) hown').symm)
  case done =>
    rintro D X hD ⟨⟨v, hv, hrow, -⟩, hB⟩ hdf
    rw [HFR.out] at hrow
    have hU := H.out.below hB HSN.out
    have k1 := hU.blk
    have hbX : b < X.heap.size := k1.lt
    unfold lnC at k1
    have k2 := blk_setL k1 8 (by simp) (.bool false)
    have e8 : X.cell? ⟨b, 8, none⟩ = some (.bool L.owes) := k1.cell (k := 8) rfl
    have e8f := k1.frozen 8
    have e4 : (X.setCell ⟨b, 8, none⟩ (.bool false)).cell? ⟨b, 4, none⟩ = some (.int .i64 (f0 : Int)) := by have := HF.out; rw [← this]; exact k2.cell (k := 4) rfl
    have e4f := k2.frozen 4
    have hbN : b < N := by have := HN.out; omega
    have hmx : max (f0 : Int) (t : Int) = max L.told (L.to : Int) := by rw [HF.out, HT.out]
    have k3 := blk_setL k2 4 (by simp) (.int .i64 (max L.told (L.to : Int)))
    have v2 := (hv.kept (grown_setCell X b 8 (.bool false)) (by simp; omega)).kept (grown_setCell _ b 4 (.int .i64 (max L.told (L.to : Int)))) (by simp; omega)
    have cv := v2.cell
    obtain ⟨ao2, n2, cap2, rfl⟩ := own_sliceL hrow
    have hrow2 := (hrow.kept (grown_setCell X b 8 (.bool false)) (.inr (fun e => by have := (hrow.lt b e).1; omega))).kept (grown_setCell _ b 4 (.int .i64 (max L.told (L.to : Int)))) (.inr (fun e => by have := (hrow.lt b e).1; omega))
    have hd2 : ((X.setCell ⟨b, 8, none⟩ (.bool false)).setCell ⟨b, 4, none⟩ (.int .i64 (max L.told (L.to : Int)))).heap[D]? = some (.deferred (some [])) := ((grown_setCell _ b 4 (.int .i64 (max L.told (L.to : Int)))).block D (by have := (Array.getElem?_eq_some_iff.1 hdf).1; simp [World.setCell]; omega) (by simp; omega)).trans (((grown_setCell X b 8 (.bool false)).block D (Array.getElem?_eq_some_iff.1 hdf).1 (by simp; omega)).trans hdf)
    have K3 := Lib.hid k3; have HROW := Lib.hid hrow2; have HD2 := Lib.hid hd2; have HB := Lib.hid hB; have HU := Lib.hid hU; have HDD := Lib.hid hD
    clear k1 k2 k3 hrow hrow2 hd2 hB hU hdf hv v2 hD hz0' hb0 bl bf bt hBw hO0 hSN bO0
    gi_wp2
    refine ⟨by simp, .inl ⟨_, _, rfl, run_takeDeferred HD2.out, ?_⟩⟩
    have hgb : But S w (((X.setCell ⟨b, 8, none⟩ (.bool false)).setCell ⟨b, 4, none⟩ (.int .i64 (max L.told (L.to : Int)))).putObj D (.deferred none)) := by
      have h1 : But S w X := (But.of_below (HN.out ▸ HB.out))
      have h2 := (h1.setL (i := 8) H.out.sb (.bool false)).setL (i := 4) H.out.sb (.int .i64 (max L.told (L.to : Int)))
      exact h2.trans' (grown_but' (grownBy_putObj' _ D (.deferred none))) (fun i hi e => by cases e; have := HDD.out; have := HN.out; have := HNW.out; omega)
    have hkb : Blk (((X.setCell ⟨b, 8, none⟩ (.bool false)).setCell ⟨b, 4, none⟩ (.int .i64 (max L.told (L.to : Int)))).putObj D (.deferred none)) b 102 (lnC (outN L) (.slice ao L.q.length cap)) := (show Blk _ b _ (lnC (outN L) (.slice ao L.q.length cap)) from K3.out).kept (grownBy_putObj' _ D _) (by have := HDD.out; simp; omega)
    obtain ⟨B9, hr9⟩ := HU.out.2.1
    have hr10 : (((X.setCell ⟨b, 8, none⟩ (.bool false)).setCell ⟨b, 4, none⟩ (.int .i64 (max L.told (L.to : Int)))).putObj D (.deferred none)).ownsRow B9 9 1 (.slice ao L.q.length cap) L.q.length (L.q.flatMap strE) :=
      ((hr9.kept (grown_setCell X b 8 (.bool false)) (.inr HUB.out)).kept (grown_setCell _ b 4 (.int .i64 (max L.told (L.to : Int)))) (.inr HUB.out)).kept (grownBy_putObj' _ D _) (.inr (fun e => by have := HSN.out D ((HSS.out D).2 (.inr e)); have := HDD.out; have := HNW.out; omega))
    exact ⟨_, results_tmp rfl _ _ _, _, rfl, ⟨hkb, ⟨B9, hr10⟩, HSS.out, HUB.out, outN_ok HU.out.ok⟩, ⟨fun q h => .inl h, hgb⟩, ownsRow_putObj (own_lowL HROW.out (by have := HN.out; omega)) _ HD2.out rfl⟩
set_option maxRecDepth 100000 in
set_option maxHeartbeats 4000000 in
theorem lkOut_true (S : Nat → Prop) (w : World) (b : Nat) (u : Value) (L : LnT) (h : LkU 102 S w b u L) :
    Calls Try.prog 37 #[.pointer (some ⟨b, 0, none⟩), .bool true] w fun e w' => ∃ v, e = .returned v ∧ LkU 102 S w' b u (outN L) ∧ Grew S S w w' ∧ w'.ownsRow w.heap.size 61 8 v (outT L true).length ((outT L true).flatMap segE) := by
  obtain ⟨i0, hi, hz0, hz1, hz2⟩ := info_parts info_segL
  obtain ⟨f0, hf0⟩ : ∃ f : Nat, L.told = (f : Int) := ⟨L.told.toNat, by have := h.ok.told; omega⟩
  obtain ⟨t, htt⟩ : ∃ t : Nat, t = L.to := ⟨_, rfl⟩
  have hto := L.to_le
  rw [← htt] at hto
  have h8 := h.ok.len; have h4 := h.ok.told
  have hSS := h.2.2.1; have hub := h.2.2.2.1
  have hbl := h.blk.lt
  have c4 : w.cell? ⟨b, 4, none⟩ = some (.int .i64 (f0 : Int)) := by rw [← hf0]; exact h.blk.cell (k := 4) rfl
  have c3 : w.cell? ⟨b, 3, none⟩ = some u := h.blk.cell (k := 3) rfl
  have hmin : min (4 : Int) (L.q.length : Int) = (t : Int) := by rw [htt]; unfold LnT.to; omega
  have hfr : (segsL L 0 t) = outT L true := by unfold outT LnT.fr; rw [htt]; simp; try (rw [hf0]; rfl)
  have hsl := h.sl
  obtain ⟨ao, cap, rfl, hc1, hc2, -, -⟩ := hsl
  obtain ⟨N, hN⟩ : ∃ N, N = w.heap.size := ⟨_, rfl⟩
  obtain ⟨V, hV⟩ : ∃ V, V = (w.alloc (.cells #[.slice none 0 0] 67)).drew := ⟨_, rfl⟩
  have bO : Boxed V N 67 (.slice none 0 0) := by rw [hV, hN]; exact (Boxed.new w _ _).kept (drew_grown _) (by simp)
  have hBV : Below w.heap.size w V := by rw [hV]; exact ((Below.refl _ w).alloc (Nat.le_refl _) _).trans ((grown_below (drew_grown _)).mono (by simp))
  have hVz : V.heap.size = N + 1 := by rw [hV, hN]; show (w.alloc _).heap.size = _; simp
  have H := Lib.hid h; have HT := Lib.hid htt; have HF := Lib.hid hf0; have HFR := Lib.hid hfr; have HBV := Lib.hid hBV; have BO := Lib.hid bO; have HVZ := Lib.hid hVz; have HSS := Lib.hid hSS; have HUB := Lib.hid hub; have HN := Lib.hid hN
  clear h hf0 htt hfr hBV bO hVz hSS hub hN
  refine (callsIn_wide (n := 3)).1 ?_
  refine callsIn_of_wp_marks Try.func37 rfl trivial ?_ rfl
  simp only [Try.ntmps37, List.size_toArray, List.length_cons, List.length_nil, Nat.reduceAdd, Nat.reduceSub, Array.replicate_succ, Array.replicate_zero, List.push_toArray, List.append_toArray, List.nil_append, List.cons_append]
  have hmix : Try.prog.follows .mixedOrders = true := by kernel_rfl
  gi_wp2_with (refine ⟨trivial, ?_⟩; gi_at_call 71; refine (callsIn_wide.2 (lkZero_blk b _ L w H.out.blk H.out.ok)).mono ?_; rintro e w1 ⟨rfl, rfl⟩)
  apply reg_cut
  · gi_region_with_o (fail)
    all_goals exact ⟨rfl, rfl⟩
  gi_wp2_with fail
  rw [← hV, ← HN.out]; clear hV
  refine ⟨trivial, ?_⟩
  refine (callsIn_wide.2 (callsIn_wide.1 (segments_any b 0 t V))).mono ?_
  rintro e w' ⟨rfl, rfl⟩
  gi_wp2_with fail
  obtain ⟨W0, hW0⟩ : ∃ W0, W0 = ((V.alloc (.cells #[pt b 0] 53)).alloc (.cells #[.int .i64 0] 3)).alloc (.cells #[.int .i64 t] 3) := ⟨_, rfl⟩
  have bl : Boxed W0 V.heap.size 53 (pt b 0) := by rw [hW0]; exact ((Boxed.new V _ _).alloc _).alloc _
  have bf : Boxed W0 (V.heap.size + 1) 3 (.int .i64 (0 : Nat)) := by
    have h := (Boxed.new (V.alloc (.cells #[pt b 0] 53)) 3 (.int .i64 0)).alloc (.cells #[.int .i64 t] 3)
    rw [World.size_alloc] at h; rw [hW0]; exact h
  have bt : Boxed W0 (V.heap.size + 1 + 1) 3 (.int .i64 t) := by
    have h := Boxed.new ((V.alloc (.cells #[pt b 0] 53)).alloc (.cells #[.int .i64 0] 3)) 3 (.int .i64 t)
    rw [World.size_alloc, World.size_alloc] at h; rw [hW0]; exact h
  have hb0 : Below V.heap.size V W0 := by rw [hW0]; exact (((Below.refl _ V).alloc (Nat.le_refl _) _).alloc (by simp) _).alloc (by simp; omega) _
  have hz0' : W0.heap.size = N + 4 := by rw [hW0]; have := HVZ.out; simp; omega
  rw [← hW0]; clear hW0
  have bO0 := BO.out.kept (below_grown hb0) (by simp)
  have hBw : Below N w W0 := HN.out ▸ HBV.out.trans (hb0.mono (HBV.out.size))
  have hO0 := H.out.gr (below_grown (HN.out ▸ hBw)) (fun q e => nomatch e)
  have hSN : ∀ q, S q → q < N := fun q hq => by rw [HN.out]; exact H.out.ofS q hq
  have hNW : N ≤ W0.heap.size := by omega
  have HSN := Lib.hid hSN; have HZ := Lib.hid hz0'; have HNW := Lib.hid hNW
  refine rf_all (gf := 106) (lb := #[.pointer (some ⟨V.heap.size, 0, none⟩), .pointer (some ⟨V.heap.size + 1, 0, none⟩), .pointer (some ⟨V.heap.size + 1 + 1, 0, none⟩)]) rfl (enters_of Try.func106 (by kernel_rfl) rfl)
    (segs_seq N _ _ _ b S _ L (0) t W0 hO0 hSN (by omega) (by omega) bl bf bt) (fun _ => rfl) KT.trans (fun X o o' h hc => KT.putObj o' h hc (by omega) (by omega))
    (fun pre X => (∃ v, Boxed X N 67 v ∧ X.ownsRow (N + 4) 61 8 v pre.length (pre.flatMap segE) ∧ True) ∧ Below N w X) ?hI ⟨⟨_, bO0, World.ownsRow_nil _ _ _ _, trivial⟩, hBw⟩
    (fun x a' X => ∃ Bx, N < Bx ∧ Ql X Bx x ∧ a' = { tmps := #[.pointer (some ⟨b, 0, none⟩), .bool true, undef, undef, .slice none 0 0, .int .i64 0, .int .i64 t, .pointer (some ⟨N, 0, none⟩), .pointer (some ⟨Bx, 0, none⟩), .pointer (some ⟨b, 0, none⟩), .bool false, .pointer (some ⟨b, 0, none⟩), .pointer (some ⟨b, 0, none⟩), .pointer (some ⟨b, 4, none⟩), .int .i64 (f0 : Int), .pointer (some ⟨b, 0, none⟩), .pointer (some ⟨b, 0, none⟩), .pointer (some ⟨b, 2, none⟩), .pointer (some ⟨b, 3, none⟩), .slice ao L.q.length cap, .int .i64 (L.q.length : Int), .int .i64 t, .bool true, .pointer (some ⟨b, 0, none⟩), .int .i64 0, .int .i64 t, .func (.func 106) #[] #[.pointer (some ⟨V.heap.size, 0, none⟩), .pointer (some ⟨V.heap.size + 1, 0, none⟩), .pointer (some ⟨V.heap.size + 1 + 1, 0, none⟩)], segV x, undef, undef, undef, undef, undef, undef, undef, undef, undef, undef, undef, undef, undef, undef, undef, undef, undef], defers := [] })
    (fun x a' _ X Y row hs hg hr => by obtain ⟨Bx, h1, h2, h3⟩ := hs; exact ⟨Bx, h1, Ql.own Bx x () X Y row h2 hg (fun r e => (hr r e).2), h3⟩)
    ?assign ?body ?done
  case hI => exact fun s' X Y row hs' hg hr => ⟨holdsRow_own (N + 4) N 67 61 8 (fun pre : List SegT => pre.length) (fun pre => pre.flatMap segE) (fun _ _ => True) s' X Y row hs'.1 hg (fun r e => (hr r e).2), ownFrom_below (by have := HN.out; omega) hNW s' X Y row hs'.2 hg hr⟩
  case assign =>
    rintro lp pre ⟨x1, x2, x3, x4, x5, x6, x7, x8⟩ X K ⟨⟨v, hv, hrow, -⟩, hB⟩ hK
    have hlt2 := hv.lt
    clear hz0' hb0 bl bf bt hBw hO0 hSN bO0
    dsimp only [segV]
    gi_wp2
    have hNs : N ≤ X.heap.size := by omega
    exact hK _ _ ((KeepsOthers.alloc _ _).from _) (KT.of_below ((Below.refl _ X).alloc (Nat.le_refl _) _) hNs) ⟨⟨v, hv.alloc _, hrow.alloc _, trivial⟩, hB.alloc hNs _⟩ ⟨X.heap.size, hlt2, World.alloc_heap_new X _, rfl⟩
  case body =>
    rintro lp pre ⟨x1, x2, x3, x4, x5, x6, x7, x8⟩ a' X hlp hlt ⟨⟨v, hv, hrow, -⟩, hB⟩ ⟨Bx, hBx, hx, rfl⟩ hp
    have hB4 : N + 4 ≤ X.heap.size := by omega
    have hpl : pre.length < 8 := by have := hp.length_le; have := segsL_len L (0) t (by omega); simp at *; omega
    have cv := hv.cell
    have q0 := Blk.cell (k := 0) hx rfl; have q1 := Blk.cell (k := 1) hx rfl; have q2 := Blk.cell (k := 2) hx rfl; have q3 := Blk.cell (k := 3) hx rfl; have q4 := Blk.cell (k := 4) hx rfl; have q5 := Blk.cell (k := 5) hx rfl; have q6 := Blk.cell (k := 6) hx rfl; have q7 := Blk.cell (k := 7) hx rfl
    dsimp only at q0 q1 q2 q3 q4 q5 q6 q7
    have hqr : X.rangeAt Bx 0 [.int .i64 x1, .int .i64 x2, .int .i64 x3, .int .i64 x4, .int .i64 x5, .int .i64 x6, .bool x7, .string x8] := Blk.all hx
    have HX := Lib.hid hx
    dsimp only [segV]
    have HBB := Lib.hid hB
    clear hB hp hx hz0' hb0 bl bf bt hBw hO0 hSN bO0
    gi_wp2_with (gi_at_builtin; refine wpListIn_append_own _ rfl _ _ 67 rfl (N + 4) 61 i0 (.agg #[.int .i64 0, .int .i64 0, .int .i64 0, .int .i64 0, .int .i64 0, .int .i64 0, .bool false, .string ⟨#[]⟩]) 8 72 Try.underlying67 hi hz0 hz1 hz2 rfl (by decide) _ _ _ rfl (hrow.alloc _) ⟨X.heap.size, 0, none⟩ 1 1 [.int .i64 x1, .int .i64 x2, .int .i64 x3, .int .i64 x4, .int .i64 x5, .int .i64 x6, .bool x7, .string x8] rfl rfl (World.news_of_block (World.alloc_heap_new _ _)) (by simp [Value.oneCell']) (by unfold maxLen; omega) (by omega) (by simp; omega) ?_; intro v' w1 hown' hgrow _; obtain ⟨g', cap', rfl⟩ := ownsRow_succ hown'; obtain ⟨p1, p2, p3, p4, p5⟩ := hv.appended (by decide) (own_lowL hrow (B' := N) (by omega)) (by omega) (Nat.le_refl _) (own_lowL hown' (B' := N) (by omega)) hgrow; have hc1 := p1.cell; have hf1 := p1.frozen)
    refine ⟨p4.from _, ?_, ⟨⟨_, p2, ?_, trivial⟩, HBB.out.trans (p5.mono (by omega))⟩⟩
    · exact ((KT.of_below ((Below.refl _ X).alloc (Nat.le_refl _) _) (by omega)).trans (KT.row (hrow.alloc _) (by omega) (by simp; omega) hgrow)).trans (KT.set p1 (Nat.le_refl _))
    · rw [List.length_append, List.flatMap_append]
      exact hown'.kept (grownBy_setCell' w1 N _) (.inr (p1.not_row (by decide) hown').symm)
  case done =>
    rintro D X hD ⟨⟨v, hv, hrow, -⟩, hB⟩ hdf
    rw [HFR.out] at hrow
    have hU := H.out.below hB HSN.out
    have k1 := hU.blk
    have hbX : b < X.heap.size := k1.lt
    unfold lnC at k1
    have k2 := blk_setL k1 8 (by simp) (.bool false)
    have e8 : X.cell? ⟨b, 8, none⟩ = some (.bool L.owes) := k1.cell (k := 8) rfl
    have e8f := k1.frozen 8
    have e4 : (X.setCell ⟨b, 8, none⟩ (.bool false)).cell? ⟨b, 4, none⟩ = some (.int .i64 (f0 : Int)) := by have := HF.out; rw [← this]; exact k2.cell (k := 4) rfl
    have e4f := k2.frozen 4
    have hbN : b < N := by have := HN.out; omega
    have hmx : max (f0 : Int) (t : Int) = max L.told (L.to : Int) := by rw [HF.out, HT.out]
    have k3 := blk_setL k2 4 (by simp) (.int .i64 (max L.told (L.to : Int)))
    have v2 := (hv.kept (grown_setCell X b 8 (.bool false)) (by simp; omega)).kept (grown_setCell _ b 4 (.int .i64 (max L.told (L.to : Int)))) (by simp; omega)
    have cv := v2.cell
    obtain ⟨ao2, n2, cap2, rfl⟩ := own_sliceL hrow
    have hrow2 := (hrow.kept (grown_setCell X b 8 (.bool false)) (.inr (fun e => by have := (hrow.lt b e).1; omega))).kept (grown_setCell _ b 4 (.int .i64 (max L.told (L.to : Int)))) (.inr (fun e => by have := (hrow.lt b e).1; omega))
    have hd2 : ((X.setCell ⟨b, 8, none⟩ (.bool false)).setCell ⟨b, 4, none⟩ (.int .i64 (max L.told (L.to : Int)))).heap[D]? = some (.deferred (some [])) := ((grown_setCell _ b 4 (.int .i64 (max L.told (L.to : Int)))).block D (by have := (Array.getElem?_eq_some_iff.1 hdf).1; simp [World.setCell]; omega) (by simp; omega)).trans (((grown_setCell X b 8 (.bool false)).block D (Array.getElem?_eq_some_iff.1 hdf).1 (by simp; omega)).trans hdf)
    have K3 := Lib.hid k3; have HROW := Lib.hid hrow2; have HD2 := Lib.hid hd2; have HB := Lib.hid hB; have HU := Lib.hid hU; have HDD := Lib.hid hD
    clear k1 k2 k3 hrow hrow2 hd2 hB hU hdf hv v2 hD hz0' hb0 bl bf bt hBw hO0 hSN bO0
    gi_wp2
    refine ⟨by simp, .inl ⟨_, _, rfl, run_takeDeferred HD2.out, ?_⟩⟩
    have hgb : But S w (((X.setCell ⟨b, 8, none⟩ (.bool false)).setCell ⟨b, 4, none⟩ (.int .i64 (max L.told (L.to : Int)))).putObj D (.deferred none)) := by
      have h1 : But S w X := (But.of_below (HN.out ▸ HB.out))
      have h2 := (h1.setL (i := 8) H.out.sb (.bool false)).setL (i := 4) H.out.sb (.int .i64 (max L.told (L.to : Int)))
      exact h2.trans' (grown_but' (grownBy_putObj' _ D (.deferred none))) (fun i hi e => by cases e; have := HDD.out; have := HN.out; have := HNW.out; omega)
    have hkb : Blk (((X.setCell ⟨b, 8, none⟩ (.bool false)).setCell ⟨b, 4, none⟩ (.int .i64 (max L.told (L.to : Int)))).putObj D (.deferred none)) b 102 (lnC (outN L) (.slice ao L.q.length cap)) := (show Blk _ b _ (lnC (outN L) (.slice ao L.q.length cap)) from K3.out).kept (grownBy_putObj' _ D _) (by have := HDD.out; simp; omega)
    obtain ⟨B9, hr9⟩ := HU.out.2.1
    have hr10 : (((X.setCell ⟨b, 8, none⟩ (.bool false)).setCell ⟨b, 4, none⟩ (.int .i64 (max L.told (L.to : Int)))).putObj D (.deferred none)).ownsRow B9 9 1 (.slice ao L.q.length cap) L.q.length (L.q.flatMap strE) :=
      ((hr9.kept (grown_setCell X b 8 (.bool false)) (.inr HUB.out)).kept (grown_setCell _ b 4 (.int .i64 (max L.told (L.to : Int)))) (.inr HUB.out)).kept (grownBy_putObj' _ D _) (.inr (fun e => by have := HSN.out D ((HSS.out D).2 (.inr e)); have := HDD.out; have := HNW.out; omega))
    exact ⟨_, results_tmp rfl _ _ _, _, rfl, ⟨hkb, ⟨B9, hr10⟩, HSS.out, HUB.out, outN_ok HU.out.ok⟩, ⟨fun q h => .inl h, hgb⟩, ownsRow_putObj (own_lowL HROW.out (by have := HN.out; omega)) _ HD2.out rfl⟩
end Go.Proofs.Ythmljllgfigebaa
