/- Package link: segments as an iterator. Conditions: none. -/
import Derived.Test.YthmljllgfigebaaLinkHLo
namespace Go.Proofs.Ythmljllgfigebaa
open Go.RowKit Go.Shelf
attribute [local go_sem] Oper.semAt_some
set_option linter.unusedVariables false
/-- A region whose ways all end alike. -/
theorem reg_cut {F : Fence} {n : Nat} {P : Program} {c : Code} {Q : Exit → Act → World → Prop} {a : Act} {w : World} (A : Act) (W : World) (h : c.wpIn F n P (Exit.then (fun a' w' => a' = A ∧ w' = W) (fun _ _ _ => False)) a w) (hQ : Q .normal A W) : c.wpIn F n P Q a w :=
  wpIn_mono h fun e a' w' he => by
    cases e with
    | normal => obtain ⟨rfl, rfl⟩ := he; exact hQ
    | ret => exact he.elim
    | exit id => exact he.elim
    | goto t => exact he.elim
    | panic ch => exact he.elim
    | outgrown => exact he.elim
theorem reg_cutM {F : Fence} {n : Nat} {P : Program} {c : Code} {Q : Exit → Act → World → Prop} {a : Act} {w : World} (M : World → Prop) (A : Act) (h : c.wpIn F n P (Exit.then (fun a' w' => a' = A ∧ M w') (fun _ _ _ => False)) a w) (hQ : ∀ W, M W → Q .normal A W) : c.wpIn F n P Q a w :=
  wpIn_mono h fun e a' w' he => by
    cases e with
    | normal => obtain ⟨rfl, hm⟩ := he; exact hQ _ hm
    | ret => exact he.elim
    | exit id => exact he.elim
    | goto t => exact he.elim
    | panic ch => exact he.elim
    | outgrown => exact he.elim
set_option maxHeartbeats 1000000 in
theorem each_any (b : Nat) (f t : Nat) (w : World) :
    CallsIn Fence.wide 2 Try.prog 107 #[pt b 2, .int .i64 f, .int .i64 t] w fun e w' => e = .returned (.func (.func 129) #[] #[.pointer (some ⟨w.heap.size + 1, 0, none⟩), .pointer (some ⟨w.heap.size + 1 + 1, 0, none⟩), .pointer (some ⟨w.heap.size, 0, none⟩)]) ∧
      w' = ((w.alloc (.cells #[pt b 2] 171)).alloc (.cells #[.int .i64 f] 3)).alloc (.cells #[.int .i64 t] 3) := by
  refine callsIn_of_wp Try.func107 rfl trivial ?_ rfl
  simp only [pt, Try.ntmps107, List.size_toArray, List.length_cons, List.length_nil, Nat.reduceAdd, Nat.reduceSub, Array.replicate_succ, Array.replicate_zero, List.push_toArray, List.append_toArray, List.nil_append, List.cons_append]
  gi_wp2
  go_ret
  exact ⟨rfl, rfl⟩
set_option maxHeartbeats 1000000 in
theorem segments_any (b : Nat) (f t : Nat) (w : World) :
    CallsIn Fence.wide 2 Try.prog 73 #[pt b 0, .int .i64 f, .int .i64 t] w fun e w' => e = .returned (.func (.func 106) #[] #[.pointer (some ⟨w.heap.size, 0, none⟩), .pointer (some ⟨w.heap.size + 1, 0, none⟩), .pointer (some ⟨w.heap.size + 1 + 1, 0, none⟩)]) ∧
      w' = ((w.alloc (.cells #[pt b 0] 53)).alloc (.cells #[.int .i64 f] 3)).alloc (.cells #[.int .i64 t] 3) := by
  refine callsIn_of_wp Try.func73 rfl trivial ?_ rfl
  simp only [pt, Try.ntmps73, List.size_toArray, List.length_cons, List.length_nil, Nat.reduceAdd, Nat.reduceSub, Array.replicate_succ, Array.replicate_zero, List.push_toArray, List.append_toArray, List.nil_append, List.cons_append]
  gi_wp2
  go_ret
  exact ⟨rfl, rfl⟩
theorem KT.grown {n₀ B₀ : Nat} {A X Y : World} {row : Option Nat} (h : KT n₀ B₀ A X) (hg : X.grownBy Y row) (hr : ∀ r, row = some r → A.heap.size ≤ r) (hn : n₀ ≤ A.heap.size) : KT n₀ B₀ A Y :=
  ⟨h.below.grown hg (Nat.le_trans hn h.below.size) (fun k e => Nat.le_trans hn (hr k e)), fun i T cs hb h1 h2 => (h.keep i T cs hb h1 h2).kept hg (fun e => by have := hr i e; have := hb.lt; omega),
   fun k o hB hk ho => (hg.block k (Array.getElem?_eq_some_iff.1 (h.others k o hB hk ho)).1 (fun e => by have := hr k e.symm; have := (Array.getElem?_eq_some_iff.1 hk).1; omega)).trans (h.others k o hB hk ho)⟩
theorem each_seq (n₀ B₀ Bf Bt Bq b : Nat) (S : Nat → Prop) (u : Value) (L : LnT) (f t : Nat) (w0 : World) (ht : t ≤ L.q.length) (hO : LkU 102 S w0 b u L) (hS : ∀ q, S q → q < n₀) (hn : n₀ ≤ w0.heap.size)
    (hf : Boxed w0 Bf 3 (.int .i64 f)) (htt : Boxed w0 Bt 3 (.int .i64 t)) (hq : Boxed w0 Bq 171 (pt b 2)) :
    SeqE Try.prog 129 #[.pointer (some ⟨Bf, 0, none⟩), .pointer (some ⟨Bt, 0, none⟩), .pointer (some ⟨Bq, 0, none⟩)] (fun x : Int × ByteArray => #[.int .i64 x.1, .string x.2]) (KT n₀ B₀) (eachL L f t) w0 :=
  fun lp J W hW _ hJ hY h0 => each_in lp n₀ B₀ Bf Bt Bq b S u L f t J ht hY (fun pre X h => hJ pre X X.drew none h (drew_grown X) (fun _ e => nomatch e)) W (hO.gr (below_grown hW) (fun q e => nomatch e)) hS (Nat.le_trans hn hW.size) h0
    (hf.kept (below_grown hW) (by simp)) (htt.kept (below_grown hW) (by simp)) (hq.kept (below_grown hW) (by simp))
theorem seg_in (b : Nat) (u : Value) (L : LnT) (q : Int) (h : Bool) (y : ByteArray) (w : World) (hB : Blk w b 102 (lnC L u)) (hok : LnOk L) (n : Nat) :
    CallsIn Fence.wide n Try.prog 108 #[.pointer (some ⟨b, 0, none⟩), .int .i64 q, .bool h, .string y] w fun e w' => e = .returned (.agg #[.int .i64 L.boot, .int .i64 L.stream, .int .i64 q, .int .i64 L.peer, .int .i64 L.in0, .int .i64 L.next, .bool h, .string y]) ∧ Below w.heap.size w w' :=
  callsIn_wide.2 (lkSegment_blk b u L q h y w hB hok)
theorem eachL_len (L : LnT) (f t : Nat) : (eachL L f t).length = t - f := by unfold eachL; simp
set_option maxRecDepth 100000 in
set_option maxHeartbeats 2000000 in
theorem segs_seq (n₀ Bl Bf Bt b : Nat) (S : Nat → Prop) (u : Value) (L : LnT) (f t : Nat) (w0 : World) (hO : LkU 102 S w0 b u L) (hS : ∀ q, S q → q < n₀) (hn : n₀ ≤ w0.heap.size) (ht : t ≤ L.q.length)
    (hl : Boxed w0 Bl 53 (pt b 0)) (hf : Boxed w0 Bf 3 (.int .i64 f)) (htt : Boxed w0 Bt 3 (.int .i64 t)) :
    SeqE Try.prog 106 #[.pointer (some ⟨Bl, 0, none⟩), .pointer (some ⟨Bf, 0, none⟩), .pointer (some ⟨Bt, 0, none⟩)] (fun g : SegT => #[segV g]) (KT n₀ (w0.heap.size + 2)) (segsL L f t) w0 := by
  intro lp J W hW hW2 hJ hY h0
  have hO1 := hO.gr (below_grown hW) (fun q e => nomatch e)
  have hl1 := hl.kept (below_grown hW) (by simp); have hf1 := hf.kept (below_grown hW) (by simp); have ht1 := htt.kept (below_grown hW) (by simp)
  obtain ⟨N, hN⟩ : ∃ N, N = W.heap.size := ⟨_, rfl⟩
  obtain ⟨W1, hW1⟩ : ∃ W1, W1 = W.alloc (.cells #[.func (.yield lp) #[] #[]] 144) := ⟨_, rfl⟩
  have bY : Boxed W1 N 144 (.func (.yield lp) #[] #[]) := by rw [hW1, hN]; exact Boxed.new W _ _
  have hb1 : Below W.heap.size W W1 := by rw [hW1]; exact (Below.refl _ W).alloc (Nat.le_refl _) _
  have hz1 : W1.heap.size = N + 1 := by rw [hW1, hN]; simp
  have hO1 := hO1.gr (below_grown hb1) (fun q e => nomatch e)
  have hl1 := hl1.kept (below_grown hb1) (by simp); have hf1 := hf1.kept (below_grown hb1) (by simp); have ht1 := ht1.kept (below_grown hb1) (by simp)
  have h0 := hJ _ _ _ none h0 (below_grown hb1) (fun r e => nomatch e)
  have cl := hl1.cell; have cf := hf1.cell; have ct := ht1.cell
  have HO := Lib.hid hO1; have HS := Lib.hid hS; have HL := Lib.hid hl1; have HF := Lib.hid hf1; have HT := Lib.hid ht1; have HY := Lib.hid hY; have HJ := Lib.hid hJ; have HN := Lib.hid hN; have HB1 := Lib.hid hb1; have BY := Lib.hid bY; have HZ1 := Lib.hid hz1
  clear hO hl hf htt hO1 hl1 hf1 ht1 hY hJ hS hW hN hb1 bY hz1
  simp only [pt] at cl
  refine callsIn_of_wp_marks Try.func106 rfl trivial ?_ rfl
  simp only [Try.ntmps106, List.size_toArray, List.length_cons, List.length_nil, Nat.reduceAdd, Nat.reduceSub, Array.replicate_succ, Array.replicate_zero, List.push_toArray, List.append_toArray, List.nil_append, List.cons_append]
  have hmix : Try.prog.follows .mixedOrders = true := by kernel_rfl
  gi_wp2_with fail
  rw [← HN.out, ← hW1]; clear hW1
  apply reg_cut
  · gi_region_with_o (refine ⟨trivial, ?_⟩; gi_at_call 107; refine (callsIn_wide.2 (callsIn_wide.1 (each_any b f t _))).mono ?_; rintro e w' ⟨rfl, rfl⟩)
    all_goals exact ⟨rfl, rfl⟩
  gi_wp2_with fail
  obtain ⟨W2, hW2'⟩ : ∃ W2, W2 = (((W1.alloc (.cells #[pt b 2] 171)).alloc (.cells #[.int .i64 f] 3)).alloc (.cells #[.int .i64 t] 3)).drew := ⟨_, rfl⟩
  have bQ : Boxed W2 W1.heap.size 171 (pt b 2) := by rw [hW2']; exact (((Boxed.new W1 _ _).alloc _).alloc _).kept (drew_grown _) (by simp)
  have bF : Boxed W2 (W1.heap.size + 1) 3 (.int .i64 f) := by
    have h := ((Boxed.new (W1.alloc (.cells #[pt b 2] 171)) 3 (.int .i64 f)).alloc (.cells #[.int .i64 t] 3)).kept (drew_grown _) (by simp)
    rw [World.size_alloc] at h; rw [hW2']; exact h
  have bT : Boxed W2 (W1.heap.size + 1 + 1) 3 (.int .i64 t) := by
    have h := (Boxed.new ((W1.alloc (.cells #[pt b 2] 171)).alloc (.cells #[.int .i64 f] 3)) 3 (.int .i64 t)).kept (drew_grown _) (by simp)
    rw [World.size_alloc, World.size_alloc] at h; rw [hW2']; exact h
  have hb2 : Below W1.heap.size W1 W2 := by rw [hW2']; exact ((((Below.refl _ W1).alloc (Nat.le_refl _) _).alloc (by simp) _).alloc (by simp; omega) _).trans ((grown_below (drew_grown _)).mono (by simp; omega))
  have hz2 : W2.heap.size = W1.heap.size + 3 := by rw [hW2']; show ((((W1.alloc _).alloc _).alloc _).heap.size) = _; simp
  rw [← hW2']; clear hW2'
  have hO2 := HO.out.gr (below_grown hb2) (fun q e => nomatch e)
  have h02 := HJ.out _ _ _ none h0 (below_grown hb2) (fun r e => nomatch e)
  have hl2 := HL.out.kept (below_grown hb2) (by simp); have hf2 := HF.out.kept (below_grown hb2) (by simp); have ht2 := HT.out.kept (below_grown hb2) (by simp); have hy2 := BY.out.kept (below_grown hb2) (by simp)
  have hWs : W.heap.size ≤ W2.heap.size := by have := HB1.out.size; omega
  have hn2 : n₀ ≤ W2.heap.size := by omega
  have hI : OwnFrom W2.heap.size (fun (pre : List (Int × ByteArray)) X => J (pre.map fun p => L.seg p.1 true p.2) X ∧ KT n₀ (w0.heap.size + 2) W2 X) := fun pre X Y row hs hg hr =>
    ⟨HJ.out _ X Y row hs.1 hg (fun r e => ⟨Nat.le_trans hWs (hr r e).1, (hr r e).2⟩), hs.2.grown hg (fun r e => (hr r e).1) hn2⟩
  have HO2 := Lib.hid hO2; have HL2 := Lib.hid hl2; have HF2 := Lib.hid hf2; have HT2 := Lib.hid ht2; have HY2 := Lib.hid hy2; have HN2 := Lib.hid hn2; have HWS := Lib.hid hWs; have HW2 := Lib.hid hW2; have HLT := Lib.hid ht
  refine rf_all (gf := 129) (lb := #[.pointer (some ⟨W1.heap.size + 1, 0, none⟩), .pointer (some ⟨W1.heap.size + 1 + 1, 0, none⟩), .pointer (some ⟨W1.heap.size, 0, none⟩)]) rfl (enters_of Try.func129 (by kernel_rfl) rfl)
    (each_seq n₀ (W2.heap.size + 2) _ _ _ b S u L f t W2 ht hO2 HS.out hn2 bF bT bQ) (fun _ => rfl) KT.trans (fun X o o' h hc => KT.putObj o' h hc (by omega) (by omega))
    (fun pre X => J (pre.map fun p => L.seg p.1 true p.2) X ∧ KT n₀ (w0.heap.size + 2) W2 X) hI ⟨h02, KT.refl _ _ _⟩
    (fun x a' _ => a' = { tmps := #[.func (.yield lp) #[] #[], .pointer (some ⟨Bl, 0, none⟩), .pointer (some ⟨Bf, 0, none⟩), .pointer (some ⟨Bt, 0, none⟩), .pointer (some ⟨N, 0, none⟩), .int .i64 x.1, .string x.2, .pointer (some ⟨b, 0, none⟩), .pointer (some ⟨b, 0, none⟩), .pointer (some ⟨b, 2, none⟩), .int .i64 f, .int .i64 t, .func (.func 129) #[] #[.pointer (some ⟨W1.heap.size + 1, 0, none⟩), .pointer (some ⟨W1.heap.size + 1 + 1, 0, none⟩), .pointer (some ⟨W1.heap.size, 0, none⟩)], .int .i64 x.1, .string x.2, undef, undef, undef, undef, undef, undef, undef, undef, undef, undef, undef, undef, undef, undef, undef, undef, undef, undef, undef, undef, undef, undef, undef, undef, undef], defers := [] })
    (fun x a' _ X Y row hs hg hr => hs) ?assign ?body ?done
  case assign =>
    rintro l pre ⟨x1, x2⟩ X K hX hK
    have HX := Lib.hid hX; have HZ := Lib.hid hz2; clear hX hz2 hI bQ bF bT hb2 hO2 h02 hl2 hf2 ht2 hy2 hWs hn2
    gi_wp2
    exact hK _ _ (KeepsFrom.refl _ _) (KT.refl _ _ _) HX.out rfl
  case body =>
    rintro l pre ⟨x1, x2⟩ a' X hl hlt ⟨hJX, hKX⟩ rfl hp
    have cY := (hKX.box HY2.out (by decide) (by decide)).cell
    have cL := (hKX.box HL2.out (by decide) (by decide)).cell
    simp only [pt] at cL
    have hU := HO2.out.below hKX.below HS.out
    have hft : f < t := by have := hp.length_le; rw [eachL_len] at this; simp at this; omega
    have hpre : (pre.map fun p => L.seg p.1 true p.2) ++ [L.seg x1 true x2] <+: segsL L f t := by
      unfold segsL; rw [if_neg (by omega)]; unfold outsL
      have h := hp.map fun p : Int × ByteArray => L.seg p.1 true p.2
      rwa [List.map_append] at h
    have HU := Lib.hid hU; have HKX := Lib.hid hKX; have HZ := Lib.hid hz2; have HP := Lib.hid hpre; have HJX := Lib.hid hJX
    have hnl : N < X.heap.size := by have := HZ1.out; have := hKX.below.size; omega
    have hbl : b < X.heap.size := hU.blk.lt
    clear hJX hKX hz2 hU hp hpre hI bQ bF bT hb2 hO2 h02 hl2 hf2 ht2 hy2 hWs hn2
    have hrw : W2.heap.size ≤ X.heap.size := HKX.out.below.size
    gi_wp2_with fail
    gi_region_with_o (first
      | (refine ⟨trivial, ?_⟩; gi_at_call 108; refine (CallsIn.inRound l (seg_in b u L x1 true x2 X.drew (HU.out.gr (drew_grown _) (fun q e => nomatch e)).blk HU.out.ok _)).mono ?_; rintro e w2 ⟨rfl, hb2⟩; have cY2 : w2.cell? ⟨N, 0, none⟩ = some (.func (.yield lp) #[] #[]) := cell_below hb2 cY; have hJ2 := HJ.out _ _ _ none (HJ.out _ _ _ none HJX.out (drew_grown X) (fun r e => nomatch e)) (below_grown hb2) (fun r e => nomatch e); obtain ⟨fn, tmps, assign, body, hy, hR⟩ := HY.out _ _ w2 hJ2 HP.out; dsimp only [segV, LnT.seg] at hy; have HB2 := Lib.hid hb2; clear hb2 hJ2)
      | (refine (roundIn_rL hR).mono ?_; rintro e W3 ⟨rfl, hJ3, hk3⟩; have HJ3 := Lib.hid hJ3; have HK3 := Lib.hid hk3; clear hJ3 hk3))
    all_goals
      gi_wp2
      have hkt : KT n₀ (w0.heap.size + 2) X W3 := ((KT.of_below (grown_below (drew_grown X)) (by have := HN2.out; omega)).trans (KT.of_below HB2.out (by show n₀ ≤ X.heap.size; have := HN2.out; omega))).trans HK3.out
      exact ⟨hkt.from (by have := HW2.out; have := HWS.out; omega), hkt.mono (by have := HW2.out; have := HWS.out; omega), by rw [List.map_append]; exact HJ3.out, HKX.out.trans hkt⟩
  case done =>
    rintro D X hD ⟨hJX, hKX⟩ hdf
    have cF := (hKX.box HF2.out (by decide) (by decide)).cell
    have cT := (hKX.box HT2.out (by decide) (by decide)).cell
    have cY := (hKX.box HY2.out (by decide) (by decide)).cell
    have cL := (hKX.box HL2.out (by decide) (by decide)).cell
    simp only [pt] at cL
    have hU := HO2.out.below hKX.below HS.out
    have c8 : X.cell? ⟨b, 8, none⟩ = some (.bool L.owes) := hU.blk.cell (k := 8) rfl
    have c2 : X.cell? ⟨b, 2, none⟩ = some (.int .i64 L.first) := hU.blk.cell (k := 2) rfl
    have HU := Lib.hid hU; have HKX := Lib.hid hKX; have HJX := Lib.hid hJX; have HD := Lib.hid hdf; have HDD := Lib.hid hD
    clear hJX hKX hz2 hU hdf hD hI bQ bF bT hb2 hO2 h02 hl2 hf2 ht2 hy2 hWs hn2
    by_cases hft : t ≤ f
    · have d1 : decide ((f : Int) ≥ (t : Int)) = true := decide_eq_true (by omega)
      have hnil : (eachL L f t) = [] := List.eq_nil_of_length_eq_zero (by rw [eachL_len]; omega)
      have HJ0 := Lib.hid (show J [] X by have h := HJX.out; rw [hnil] at h; exact h)
      cases ho : L.owes with
      | true =>
        rw [ho] at c8
        have hsg : segsL L f t = [L.seg L.first false ⟨#[]⟩] := by unfold segsL; rw [if_pos hft, if_pos ho]
        have HSG := Lib.hid hsg; clear hsg ho
        gi_wp2_with fail
        apply reg_cutM (M := fun Y => J [L.seg L.first false ⟨#[]⟩] Y ∧ Y.heap[D]? = some (.deferred (some [])))
        · gi_region_with_o (first
            | (refine ⟨trivial, ?_⟩; gi_at_call 108; refine (seg_in b u L L.first false ⟨#[]⟩ X.drew (HU.out.gr (drew_grown _) (fun q e => nomatch e)).blk HU.out.ok _).mono ?_; rintro e w2 ⟨rfl, hb2⟩; have cY2 : w2.cell? ⟨N, 0, none⟩ = some (.func (.yield lp) #[] #[]) := cell_below hb2 cY; have hJ2 := HJ.out _ _ _ none (HJ.out _ _ _ none HJ0.out (drew_grown X) (fun r e => nomatch e)) (below_grown hb2) (fun r e => nomatch e); obtain ⟨fn, tmps, assign, body, hy, hR⟩ := HY.out [] (L.seg L.first false ⟨#[]⟩) w2 hJ2 (by rw [HSG.out]; exact List.prefix_rfl); dsimp only [segV, LnT.seg] at hy; have HB2 := Lib.hid hb2; clear hb2 hJ2)
            | (refine (roundIn_nL hR).mono ?_; rintro e W3 ⟨rfl, hJ3, hk3⟩; have HJ3 := Lib.hid hJ3; have HK3 := Lib.hid hk3; clear hJ3 hk3))
          all_goals
            have hd3 : W3.heap[D]? = some (.deferred (some [])) := HK3.out.others D _ (by have := HW2.out; have := HWS.out; have := HDD.out; omega) ((HB2.out.block D (Array.getElem?_eq_some_iff.1 (show X.drew.heap[D]? = some (.deferred (some [])) from HD.out)).1).trans (show X.drew.heap[D]? = some (.deferred (some [])) from HD.out)) rfl
            exact ⟨rfl, HJ3.out, hd3⟩
        rintro W3 ⟨hJ3, hd3⟩
        have HJ3 := Lib.hid hJ3; have HD3 := Lib.hid hd3; clear hJ3 hd3
        gi_wp2
        refine ⟨by simp, .inl ⟨_, _, rfl, run_takeDeferred HD3.out, ?_⟩⟩
        exact ⟨_, results_none rfl _ _ _, ⟨_, rfl⟩, by rw [HSG.out]; exact HJ.out _ _ _ (some D) HJ3.out (grownBy_putObj' _ _ _) (fun r e => by cases e; exact ⟨by have := HWS.out; have := HDD.out; omega, _, HD3.out, rfl⟩)⟩
      | false =>
        rw [ho] at c8
        have hsg : segsL L f t = [] := by unfold segsL; rw [if_pos hft, if_neg (by simp [ho])]
        have HSG := Lib.hid hsg; clear hsg ho
        gi_wp2
        refine ⟨by simp, .inl ⟨_, _, rfl, run_takeDeferred HD.out, ?_⟩⟩
        exact ⟨_, results_none rfl _ _ _, ⟨_, rfl⟩, by rw [HSG.out]; exact HJ.out _ _ _ (some D) HJ0.out (grownBy_putObj' _ _ _) (fun r e => by cases e; exact ⟨by have := HWS.out; have := HDD.out; omega, _, HD.out, rfl⟩)⟩
    · have d1 : decide ((f : Int) ≥ (t : Int)) = false := decide_eq_false (by omega)
      have hsg : segsL L f t = outsL L f t := by unfold segsL; rw [if_neg hft]
      have HSG := Lib.hid hsg; clear hsg
      gi_wp2
      refine ⟨by simp, .inl ⟨_, _, rfl, run_takeDeferred HD.out, ?_⟩⟩
      exact ⟨_, results_none rfl _ _ _, ⟨_, rfl⟩, by rw [HSG.out]; exact HJ.out _ _ _ (some D) HJX.out (grownBy_putObj' _ _ _) (fun r e => by cases e; exact ⟨by have := HWS.out; have := HDD.out; omega, _, HD.out, rfl⟩)⟩
end Go.Proofs.Ythmljllgfigebaa
