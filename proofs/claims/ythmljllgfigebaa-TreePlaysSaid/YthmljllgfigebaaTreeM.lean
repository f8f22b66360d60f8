/- Package tree: Seek. Conditions: at most 80000 keys. -/
import Derived.Test.YthmljllgfigebaaTreeL
namespace Go.Proofs.Ythmljllgfigebaa
open Go.RowKit Go.Shelf
attribute [local go_sem] Oper.semAt_some
set_option linter.unusedVariables false

theorem loadVar_one {P : Program} {ty : TypeId} {d : TypeDesc} {w : World} {a : Addr} {v : Value} (hu : P.underlying ty = some d) (hd : (match d with | .struct _ | .array _ _ => false | _ => true) = true) (hc : w.cell? a = some v) : (loadVar ty a).run P w = .ok v w := by
  have hagg : (isAgg ty).run P w = .ok false w := by
    unfold isAgg
    rw [Sem.run_bind, run_underlying hu w]
    cases d <;> simp_all
  simp [loadVar, Sem.run_bind, hagg, load, Sem.run, hc]
theorem results_cells2 {P : Program} {fn : Func} {p q : Tmp} {ty tz : TypeId} {d d' : TypeDesc} (h : fn.results = #[.cell p ty, .cell q tz]) (tmps : Array Value) (w : World) {a b : Addr} {v u : Value}
    (ha : tmps.getD p undef = .pointer (some a)) (hb : tmps.getD q undef = .pointer (some b)) (hu : P.underlying ty = some d) (hd : (match d with | .struct _ | .array _ _ => false | _ => true) = true)
    (hu' : P.underlying tz = some d') (hd' : (match d' with | .struct _ | .array _ _ => false | _ => true) = true) (hv : w.cell? a = some v) (hw : w.cell? b = some u) : (results fn tmps).run P w = .ok (.tuple #[v, u]) w := by
  have ha' : tmps[p]?.getD undef = .pointer (some a) := by simpa using ha
  have hb' : tmps[q]?.getD undef = .pointer (some b) := by simpa using hb
  simp [results, h, ha', hb', asAddr, Sem.run_bind, Result.andThen, loadVar_one hu hd hv, loadVar_one hu' hd' hw]
/-- What Seek answers. -/
def hdK : List ByteArray → ByteArray × Bool
  | [] => (⟨#[]⟩, false)
  | a :: _ => (a, true)
theorem hdK_pre {l : List ByteArray} {x : ByteArray} (h : [x] <+: l) : hdK l = (x, true) := by obtain ⟨z, rfl⟩ := h; rfl

set_option maxRecDepth 100000 in
set_option maxHeartbeats 4000000 in
theorem tseek_any (S : Nat → Prop) (w : World) (tb : Nat) (L : List Kv) (d : Int) (F : ByteArray) (h : TrO S w tb L d) :
    Calls Try.prog 22 #[pt tb 0, .string F] w fun e w' => e = .returned (.tuple #[.string (hdK (wkL F L)).1, .bool (hdK (wkL F L)).2]) ∧ Below w.heap.size w w' := by
  obtain ⟨t, h1, h2, h3, h4, h5, h6, rfl, h8, h9⟩ := h
  rw [← wk_il F t h6]
  obtain ⟨N, hN⟩ : ∃ N, N = w.heap.size := ⟨_, rfl⟩
  have hq : ∀ q ∈ bk t, q < N := fun q hq => by rw [hN]; exact h2.lt q hq
  have H1 := Lib.hid h1; have H2 := Lib.hid h2; have HQ := Lib.hid hq
  clear h1 h2 h3 h4 h5 h6 h8 h9 hq
  refine (callsIn_wide (n := 3)).1 ?_
  refine callsIn_of_wp_marks Try.func22 rfl trivial ?_ rfl
  simp only [Try.ntmps22, List.size_toArray, List.length_cons, List.length_nil, Nat.reduceAdd, Nat.reduceSub, Array.replicate_succ, Array.replicate_zero, List.push_toArray, List.append_toArray, List.nil_append, List.cons_append]
  have hn1 : 1 ≤ (3 : Nat) := by omega
  rw [← hN]
  have HN := Lib.hid hN; clear hN
  gi_wp2_with (first
    | (refine ⟨trivial, ?_⟩; gi_at_call 64; refine (callsIn_wide.2 (zero_made tb _ _ _ (Blk.kept (Blk.kept H1.out (World.grownBy_alloc _ _ none) (by simp)) (World.grownBy_alloc _ _ none) (by simp)))).mono ?_; rintro e w1 ⟨rfl, rfl⟩)
    | (refine ⟨trivial, ?_⟩; gi_at_call 68; refine (keysFrom_any tb F _).mono ?_; rintro e w' ⟨rfl, rfl⟩))
  have bT := (((Boxed.new w 9 (.string ⟨#[]⟩)).alloc (.cells #[.bool false] 4)).alloc (.cells #[pt tb 0] 23)).alloc (.cells #[.string F] 9)
  have bL := ((Boxed.new (w.alloc (.cells #[.string ⟨#[]⟩] 9)) 4 (.bool false)).alloc (.cells #[pt tb 0] 23)).alloc (.cells #[.string F] 9)
  have bP := (Boxed.new ((w.alloc (.cells #[.string ⟨#[]⟩] 9)).alloc (.cells #[.bool false] 4)) 23 (pt tb 0)).alloc (.cells #[.string F] 9)
  have bF := Boxed.new (((w.alloc (.cells #[.string ⟨#[]⟩] 9)).alloc (.cells #[.bool false] 4)).alloc (.cells #[pt tb 0] 23)) 9 (.string F)
  have hB0 : Below w.heap.size w ((((w.alloc (.cells #[.string ⟨#[]⟩] 9)).alloc (.cells #[.bool false] 4)).alloc (.cells #[pt tb 0] 23)).alloc (.cells #[.string F] 9)) := ((((Below.refl _ w).alloc (Nat.le_refl _) _).alloc (by simp) _).alloc (by simp; omega) _).alloc (by simp; omega) _
  have hsz : ((((w.alloc (.cells #[.string ⟨#[]⟩] 9)).alloc (.cells #[.bool false] 4)).alloc (.cells #[pt tb 0] 23)).alloc (.cells #[.string F] 9)).heap.size = w.heap.size + 4 := by simp
  simp only [World.size_alloc] at bT bL bP bF ⊢
  rw [← HN.out] at bT bL bP bF hB0 hsz ⊢
  obtain ⟨W0, hW0⟩ : ∃ W0, ((((w.alloc (.cells #[.string ⟨#[]⟩] 9)).alloc (.cells #[.bool false] 4)).alloc (.cells #[pt tb 0] 23)).alloc (.cells #[.string F] 9)) = W0 := ⟨_, rfl⟩
  rw [hW0] at bT bL bP bF hB0 hsz ⊢
  clear hW0
  have hNW : N ≤ W0.heap.size := by omega
  have hk0 : Blk W0 tb 51 #[.bool true, ptT t, .int .i64 (sz t)] := Blk.kept H1.out (below_grown (HN.out ▸ hB0)) (by simp)
  have ht0 : TreeAt W0 t := H2.out.gr (below_grown (HN.out ▸ hB0)) (fun q e => nomatch e)
  refine wpIn_rangeFunc_ownH rfl hn1 (gf := 104) (lb := #[.pointer (some ⟨N + 1 + 1, 0, none⟩), .pointer (some ⟨N + 1 + 1 + 1, 0, none⟩)]) rfl trivial (enters_of Try.func104 (by kernel_rfl) rfl)
    (titer_stops N (N + 1 + 1) tb F t _ _ W0 ht0 HQ.out hk0 bP bF) Below.trans (belowK_b (by omega)) (Below.refl _ _) (fun _ => rfl)
    (fun pre W => ((pre = [] ∧ Boxed W N 9 (.string ⟨#[]⟩)) ∧ Boxed W (N + 1) 4 (.bool false)) ∧ Below N w W)
    (fun c pre W => ((c = .ret ∧ ∃ x, pre = [x] ∧ Boxed W N 9 (.string x)) ∧ Boxed W (N + 1) 4 (.bool true)) ∧ Below N w W)
    ?hI ?hIx ⟨⟨⟨rfl, bT⟩, bL⟩, hB0⟩
    (fun x a' W => a' = { tmps := #[pt tb 0, .string F, undef, undef, .pointer (some ⟨N, 0, none⟩), .pointer (some ⟨N + 1, 0, none⟩), .string x, pt tb 0, .bool false, pt tb 0, .string F, .func (.func 104) #[] #[.pointer (some ⟨N + 1 + 1, 0, none⟩), .pointer (some ⟨N + 1 + 1 + 1, 0, none⟩)], .string x, undef], defers := [] })
    (fun x a' _ X Y row hs hg hr => hs)
    ?assign ?body ?done ?stop
  case hI => exact fun s' X Y row hs' hg hr => ⟨⟨⟨hs'.1.1.1, boxed_own N 9 (fun _ : Unit => .string ⟨#[]⟩) () X Y row hs'.1.1.2 hg (fun r e => (hr r e).2)⟩, boxed_own (N + 1) 4 (fun _ : Unit => .bool false) () X Y row hs'.1.2 hg (fun r e => (hr r e).2)⟩, ownFrom_below (by have := HN.out; omega) hNW s' X Y row hs'.2 hg hr⟩
  case hIx =>
    rintro c s' X Y row ⟨⟨⟨q1, x, q2, q3⟩, q4⟩, q5⟩ hg hr
    exact ⟨⟨⟨q1, x, q2, boxed_own N 9 (fun _ : Unit => .string x) () X Y row q3 hg (fun r e => (hr r e).2)⟩, boxed_own (N + 1) 4 (fun _ : Unit => .bool true) () X Y row q4 hg (fun r e => (hr r e).2)⟩, ownFrom_below (by have := HN.out; omega) hNW s' X Y row q5 hg hr⟩
  case assign =>
    rintro lp pre x W K ⟨⟨⟨hp, hIA⟩, hg⟩, hB⟩ hK
    have HG := Lib.hid hg; have HSZ := Lib.hid hsz; have HIA := Lib.hid hIA; have HB := Lib.hid hB; have HP := Lib.hid hp; clear hg hsz hIA hB hp
    gi_wp2
    exact hK _ _ ((KeepsOthers.refl _).from _) (Below.refl _ _) ⟨⟨⟨HP.out, HIA.out⟩, HG.out⟩, HB.out⟩ rfl
  case body =>
    rintro lp pre x a' W hlp ⟨r, hr⟩ ⟨⟨⟨rfl, hv⟩, hg⟩, hB⟩ rfl hlt
    have cv := hv.cell; have fv := hv.frozen
    have g1 := hv.set (.string x)
    have g2 := hg.other (B' := N) (by omega) (.string x)
    have cg := g2.cell; have fg := g2.frozen
    have b1 : Below N W (W.setCell ⟨N, 0, none⟩ (.string x)) := (Below.refl N W).setCell (p := ⟨N, 0, none⟩) (Nat.le_refl _) _
    have b2 : Below N W ((W.setCell ⟨N, 0, none⟩ (.string x)).setCell ⟨N + 1, 0, none⟩ (.bool true)) := b1.setCell (p := ⟨N + 1, 0, none⟩) (Nat.le_succ _) _
    have G1 := Lib.hid g1; have G2 := Lib.hid g2; have HSZ := Lib.hid hsz; have HBB := Lib.hid (hB.trans b2)
    clear hg hsz hB bT bL bP bF hk0 ht0 g1 g2 b1 b2 hv
    gi_wp2
    exact ⟨((KeepsOthers.setCell _ _ _).trans (KeepsOthers.setCell _ _ _)).from _, ⟨⟨rfl, x, rfl, G1.out.other (by omega) _⟩, G2.out.set _⟩, HBB.out⟩
  case done =>
    rintro D ys W hD rfl ⟨⟨⟨hp, hv⟩, hg⟩, hB⟩ hK
    have cv := hv.cell; have fv := hv.frozen
    have g2 := hg.other (B' := N) (by omega) (.string ⟨#[]⟩)
    have cg := g2.cell; have fg := g2.frozen
    have b1 : Below N W (W.setCell ⟨N, 0, none⟩ (.string ⟨#[]⟩)) := (Below.refl N W).setCell (p := ⟨N, 0, none⟩) (Nat.le_refl _) _
    have b2 : Below N W ((W.setCell ⟨N, 0, none⟩ (.string ⟨#[]⟩)).setCell ⟨N + 1, 0, none⟩ (.bool false)) := b1.setCell (p := ⟨N + 1, 0, none⟩) (Nat.le_succ _) _
    have HKD : Hid (((W.setCell ⟨N, 0, none⟩ (.string ⟨#[]⟩)).setCell ⟨N + 1, 0, none⟩ (.bool false)).heap[D]? = some (.deferred (some []))) := Lib.hid (by
      rw [Below.heap_setCell _ _ _ _ (show D ≠ N + 1 by omega), Below.heap_setCell _ _ _ _ (show D ≠ N by omega)]; exact hK)
    have V1 := Lib.hid ((hv.set (.string ⟨#[]⟩)).other (B' := N + 1) (by omega) (.bool false)); have V2 := Lib.hid (g2.set (.bool false)); have HBB := Lib.hid (hB.trans b2); have HSZ := Lib.hid hsz; have HP := Lib.hid hp
    clear hK hsz bT bL bP bF hk0 ht0 b1 b2 hv hg g2 hB hp
    gi_wp2
    refine ⟨by simp, .inl ⟨_, _, rfl, run_takeDeferred HKD.out, ?_⟩⟩
    have e1 := (V1.out.kept (grownBy_putObj' _ D (.deferred none)) (fun e => by have := Option.some.inj e; have := HSZ.out; omega)).cell
    have e2 := (V2.out.kept (grownBy_putObj' _ D (.deferred none)) (fun e => by have := Option.some.inj e; have := HSZ.out; omega)).cell
    refine ⟨_, results_cells2 rfl _ _ rfl rfl Try.underlying9 rfl Try.underlying4 rfl e1 e2, by rw [HP.out]; rfl, HBB.out.trans (belowK_b (w := w) (by have := HN.out; omega) _ D _ _ (by have := HN.out; omega) HKD.out rfl rfl)⟩
  case stop =>
    rintro D c pre W hD ⟨hne, hpre⟩ ⟨⟨⟨rfl, x, rfl, hv⟩, hg⟩, hB⟩ hK
    have HKD := Lib.hid hK; have V1 := Lib.hid hv; have V2 := Lib.hid hg; have HBB := Lib.hid hB; have HSZ := Lib.hid hsz; have HP := Lib.hid hpre
    clear hK hsz bT bL bP bF hk0 ht0 hv hg hB hpre hne
    gi_wp2
    refine ⟨by simp, .inl ⟨_, _, rfl, run_takeDeferred HKD.out, ?_⟩⟩
    have e1 := (V1.out.kept (grownBy_putObj' _ D (.deferred none)) (fun e => by have := Option.some.inj e; have := HSZ.out; omega)).cell
    have e2 := (V2.out.kept (grownBy_putObj' _ D (.deferred none)) (fun e => by have := Option.some.inj e; have := HSZ.out; omega)).cell
    refine ⟨_, results_cells2 rfl _ _ rfl rfl Try.underlying9 rfl Try.underlying4 rfl e1 e2, by rw [hdK_pre HP.out], HBB.out.trans (belowK_b (w := w) (by have := HN.out; omega) _ D _ _ (by have := HN.out; omega) HKD.out rfl rfl)⟩
end Go.Proofs.Ythmljllgfigebaa
