/- Put together: PntFPz, PntGPz, PntHPz, PntWPz, PntIPz, PntJPz, SumLaidPz. Conditions: as each says. -/
import Derived.Test.YtfiplhnplmadmaaDoorPy2
import Derived.Defers
import Derived.Recover
import Derived.Laws.Pointers
import Derived.WalkLawsBesides
import Derived.Test.YtfiplhnplmadmaaDoorPy1
import Derived.Test.YtfiplhnplmadmaaDoorTie
import Derived.LaidMore
import Derived.Lib.LaidTab
import Derived.Stop.Joined
/- Package point: begin. Conditions: texts of at most 60000 bytes, at most 700 of them. -/
namespace Go.Proofs.YtfiplhnplmadmaaDoor
open Go.RowKit Go.PlainAid Go.Shelf
set_option linter.unusedVariables false

theorem syn_off : ∀ (ps : List PcT) (fm : Int → Option FileM) (k : Int), (∀ p ∈ ps, p.1 ≠ k) → synF fm ps k = fm k
  | [], fm, k, _ => rfl
  | p :: r, fm, k, h => by
    show synF (putF fm p.1 _) r k = _
    rw [syn_off r _ k (fun q hq => h q (List.mem_cons_of_mem _ hq))]
    unfold putF
    rw [if_neg (fun e => h p (List.mem_cons_self ..) e.symm)]
theorem pcs_ge (first : Int) : ∀ (xs : List ByteArray) (A : List WSeg), ∀ p ∈ pcsA first A xs, first ≤ p.1
  | [], A, p, hp => by cases hp
  | x :: r, A, p, hp => by
    rcases List.mem_cons.1 hp with rfl | hp
    · show first ≤ first + (atA A : Int); omega
    · exact pcs_ge first r _ p hp
theorem WSG.sync_old {s : DkS} {first : Int} {A : List WSeg} {xs : List ByteArray} {old : Int → Option FileM} {p0 : List PcT} (h : WSG s first A xs old p0) (hp : p0 = []) (ho : ∀ k, k < first → old k = none) : ∀ k, k < first → synF s.fm s.ps k = none := fun k hk => by
  rw [syn_off _ _ _ (fun p hp2 => by rw [h.ps, hp, List.nil_append] at hp2; have := pcs_ge first xs A p hp2; omega), h.on k, if_neg (by omega)]
  exact ho k hk
/-- A log that is begun behind all other files of a disk. -/
structure BgO (base d c m : Nat) (first : Int) (s : DkS) (xs : List ByteArray) (old : Int → Option FileM) (p0 : List PcT) (w : World) : Prop where
  obj : DObj base w d c s
  log : WSG s first [] xs old p0
  dk : DkI s m
  tab : Tab w
  b0 : 0 < base
  c1 : c ≤ 1000 + m
  m1 : m ≤ 800
  f1 : 1 ≤ first ∧ first ≤ 1000000000
  x1 : xs.length ≤ m
section
variable {base d c m : Nat} {first : Int} {s : DkS} {xs : List ByteArray} {old : Int → Option FileM} {p0 : List PcT} {w x : World}
theorem BgO.turn (h : BgO base d c m first s xs old p0 w) (hD : DObj base x d c s) (hb : ButD base w x) : BgO base d c m first s xs old p0 x := ⟨hD, h.log, h.dk, tab_butD h.tab hb h.b0, h.b0, h.c1, h.m1, h.f1, h.x1⟩
theorem BgO.below (h : BgO base d c m first s xs old p0 w) (hb : Below w.heap.size w x) : BgO base d c m first s xs old p0 x := h.turn (h.obj.call hb) (But.of_below hb)
theorem BgO.logR (h : BgO base d c m first s xs old p0 w) : LogR base d c s first (xs.foldl appA []) w := by
  have hl := run_len xs []
  have hx := h.x1; have hm := h.m1; have hc := h.c1
  simp only [List.length_nil] at hl
  refine ⟨h.obj, by omega, h.log.logs, ⟨h.f1.1, by have := h.f1.2; omega⟩, by omega, fun y hy => ?_, ?_, h.tab, h.b0⟩
  · obtain ⟨i, hi⟩ := List.getElem?_of_mem hy
    have h10 := h.dk.len (first + (i : Int))
    rw [((h.log.logs).2 i).2] at h10
    unfold bytA at h10
    rw [hi] at h10
    have h11 : ((y.b.data.toList.length : Nat) : Int) ≤ m * 1048576 := h10
    rw [list_len] at h11
    omega
  · rw [txt_run, List.length_append]; simp [txtA]; omega
theorem BgO.here (h : BgO base d c m first s xs old p0 w) : wrE (hereA first (xs.foldl appA [])) = 0 := by
  have hl := run_len xs []
  have hx := h.x1; have hm := h.m1
  simp only [List.length_nil] at hl
  have := at_le (xs.foldl appA []); have := h.f1
  exact here_ok h.f1.1 (by unfold hereA; omega)
set_option maxRecDepth 100000 in
set_option maxHeartbeats 4000000 in
theorem bgAppend {N : Nat} (w : World) (t : ByteArray) (hW : Blk w N 41 #[.bool true, pt d 0, .int .i64 first]) (h : BgO base d c m first s xs old p0 w) (hm : m ≤ 700) (hsz : t.size ≤ 65536) : Calls Tryd.prog 12 #[pt N 0, .string t] w fun e w' => e = .returned (.int .i64 0) ∧ BgO base d (c + 1) (m + 1) first (wrS s (hereA first (xs.foldl appA [])) (frameB t)) (xs ++ [t]) old p0 w' ∧ ButD base w w' := by
  have c0 := hW.cell (k := 0) rfl; have c1 : w.cell? ⟨N, 1, none⟩ = some (.pointer (some ⟨d, 0, none⟩)) := hW.cell (k := 1) rfl; have c2 := hW.cell (k := 2) rfl
  have H := Lib.hid h; have HM := Lib.hid hm; have HW := Lib.hid hW
  clear h hW hm
  go_enter Tryd.func12, Tryd.ntmps12
  simp only [pt]
  go_wp2_with fail
  refine (put_frame t w H.out.tab (by omega)).mono ?_
  rintro e w1 ⟨rfl, hb1⟩
  have e1 : putR t = (frameB t, 0) := by unfold putR; rw [if_neg (by omega)]
  rw [e1]; unfold putV
  have HB1 := Lib.hid hb1; have H1 := Lib.hid (H.out.below hb1)
  have hW1 := HW.out.below hb1
  have d1 : w1.cell? ⟨N, 1, none⟩ = some (.pointer (some ⟨d, 0, none⟩)) := hW1.cell (k := 1) rfl; have d2 := hW1.cell (k := 2) rfl
  have HW1 := Lib.hid hW1
  clear hb1 e1 hW1 c0 c1 c2
  dsimp only
  go_wp2_with fail
  go_region_law (first | (go_simp; go_at_call 33; refine (here_any first _ _ (H1.out.below (grown_below (drew_grown _))).logR).mono ?_; rintro e w2 ⟨rfl, h2, hb2⟩; have HW2 := HW1.out.below (grown_below (drew_grown _)); have hq := Blk.grW HW2 (by decide) hb2; have k1 : w2.cell? ⟨N, 1, none⟩ = some (.pointer (some ⟨d, 0, none⟩)) := hq.cell (k := 1) rfl; have k2 := hq.cell (k := 2) rfl; have H2 := Lib.hid (((H1.out.below (grown_below (drew_grown _))).turn h2 hb2)); have HB2 := Lib.hid hb2; clear h2 hb2 hq HW2) | (go_simp; go_at_call 28; refine (tWrite _ (hereA first (xs.foldl appA [])) (frameB t) H2.out.obj (H2.out.dk.hsz (by have := HM.out; omega) _ (by have := frameB_le hsz; omega)) (H2.out.dk.hpl (by have := HM.out; omega))).mono ?_; rintro e w3 ⟨rfl, h3, hb3⟩))
  all_goals (have hhr := H2.out.here; have HH := Lib.hid hhr; clear hhr; have HD3 := Lib.hid h3; have HB3 := Lib.hid hb3; clear h3 hb3; go_wp2; go_ret; exact ⟨by rw [HH.out]; rfl, ⟨HD3.out, H.out.log.write hsz HH.out, H.out.dk.write _ _ (by have := frameB_le hsz; omega), tab_butD H2.out.tab HB3.out H.out.b0, H.out.b0, by have := H.out.c1; omega, by have := HM.out; omega, H.out.f1, by have := H.out.x1; simp; omega⟩, butD_tr (butD_tr (But.of_below HB1.out) (butD_tr (But.of_below (grown_below (drew_grown _))) HB2.out)) HB3.out⟩)
end
theorem ta_nilP (w : World) : (Instr.typeAssert Value.nilIface 20 29 true).run Tryd.prog w = .ok (.tuple #[.int .i64 0, .bool false]) w := by kernel_rfl
set_option maxRecDepth 100000 in
set_option maxHeartbeats 1600000 in
theorem bg_idle (p q r t : Addr) (w : World) :
    CallsD Tryd.prog 51 #[.pointer (some p), .pointer (some q), .pointer (some r), .pointer (some t)] .returning w fun e u' w' => e = .returned (.tuple #[]) ∧ u' = .returning ∧ w' = w := by
  refine callsD_of_wpS Tryd.func51 rfl fun c₀ cs hu => ?_
  apply wpS_seq
  apply wpS_region
  simp [wpOpsS, go_sem, recoverD, hu, Tryd.ntmps51, Exit.thenS, ta_nilP]
  apply wpS_seq
  apply wpS_region
  simp [wpOpsS, go_sem, recoverD, hu, Exit.thenS]
  refine wpS_cond (t := false) (by simp [Act.eval, Array.replicate]) ?_
  simp only [Bool.false_eq_true, if_false]
  refine wpS_of_wp (wp_skip ?_)
  cases c₀
  simp_all [bodyPostS, results, Tryd.results51]
set_option maxRecDepth 100000 in
theorem must_ok (w : World) : Calls Tryd.prog 54 #[.int .i64 0] w fun e w' => e = .returned (.tuple #[]) ∧ w = w' := by
  go_enter Tryd.func54, Tryd.ntmps54
  go_wp2
  go_end0
  exact ⟨rfl, rfl⟩
/-- The boxes of begin. -/
structure BgX (n0 d : Nat) (W : World) : Prop where
  bd : Boxed W n0 25 (pt d 0)
  bl : Blk W (n0 + 1) 59 #[.pointer none, .int .i64 0, .pointer none]
  be : Boxed W (n0 + 1 + 1) 29 (.int .i64 0)
theorem BgX.turn {n0 d base : Nat} {W X : World} (h : BgX n0 d W) (hb : ButD base W X) : BgX n0 d X := ⟨boxD h.bd (by decide) hb, blkD h.bl (by decide) hb, boxD h.be (by decide) hb⟩
theorem BgX.below {n0 d : Nat} {W X : World} (h : BgX n0 d W) (hb : Below W.heap.size W X) : BgX n0 d X := h.turn (base := 0) (But.of_below hb)
set_option maxRecDepth 100000 in
set_option maxHeartbeats 8000000 in
theorem begin_any {base d c m : Nat} {first : Int} {s : DkS} {old : Int → Option FileM} {p0 : List PcT} (v : Value) (l : List ByteArray) (w : World) (h : BgO base d c m first s [] old p0 w) (hs : ∀ X, ButD base w X → SliceOf strE 1 X v l) (hl : l.length + m ≤ 600) (hsz : ∀ z ∈ l, z.size ≤ 60000) :
    Calls Tryd.prog 37 #[pt d 0, .int .i64 first, v] w fun e w' => ∃ (N c' : Nat) (s' : DkS) (old' : Int → Option FileM), e = .returned (.tuple #[.agg #[pt d 0, .int .i64 first, pt N 0], .int .i64 0]) ∧ Blk w' N 41 #[.bool true, pt d 0, .int .i64 first] ∧
      WSG s' first ((hdP l.length :: l.map tT).foldl appA []) [] old' [] ∧ DObj base w' d c' s' ∧ c' ≤ 5000 ∧ DkI s' (m + l.length + 1) ∧ s'.boots = s.boots ∧ ButD base w w' ∧ (p0 = [] → (∀ k, k < first → old k = none) → ∀ k, k < first → old' k = none) := by
  have hmf : ∀ (fn : Fn) (first cap : Array Value) (w : World), (Instr.makeFunc fn first cap).run Tryd.prog w = .ok (.func fn first cap) w := fun _ _ _ _ => rfl
  have H := Lib.hid h; have HS := Lib.hid hs; have HL := Lib.hid hl; have HSZ := Lib.hid hsz
  clear h hs hl hsz
  go_enter_defers Tryd.func37, Tryd.ntmps37
  simp only [pt]
  go_wp2_with fail
  obtain ⟨n0, hn0⟩ : ∃ n, n = w.heap.size := ⟨_, rfl⟩
  have hB0 : Below w.heap.size w (((w.alloc (.cells #[.pointer (some ⟨d, 0, none⟩)] 25)).alloc (.cells #[.pointer none, .int .i64 0, .pointer none] 59)).alloc (.cells #[.int .i64 0] 29)) := (((Below.refl _ w).alloc (Nat.le_refl _) _).alloc (by simp) _).alloc (by simp; omega) _
  have hX0 : BgX w.heap.size d (((w.alloc (.cells #[.pointer (some ⟨d, 0, none⟩)] 25)).alloc (.cells #[.pointer none, .int .i64 0, .pointer none] 59)).alloc (.cells #[.int .i64 0] 29)) := by
    refine ⟨((Boxed.new w _ _).alloc _).alloc _, ?_, ?_⟩
    · have h1 := World.alloc_heap_new (w.alloc (.cells #[.pointer (some ⟨d, 0, none⟩)] 25)) (.cells #[.pointer none, .int .i64 0, .pointer none] 59)
      rw [World.size_alloc] at h1
      exact (Blk.kept (show Blk _ (w.heap.size + 1) _ _ from h1) (World.grownBy_alloc _ _ none) (by simp))
    · have h1 := Boxed.new ((w.alloc (.cells #[.pointer (some ⟨d, 0, none⟩)] 25)).alloc (.cells #[.pointer none, .int .i64 0, .pointer none] 59)) 29 (.int .i64 0)
      rw [World.size_alloc, World.size_alloc] at h1; exact h1
  obtain ⟨W0, hW0⟩ : ∃ W0, (((w.alloc (.cells #[.pointer (some ⟨d, 0, none⟩)] 25)).alloc (.cells #[.pointer none, .int .i64 0, .pointer none] 59)).alloc (.cells #[.int .i64 0] 29)) = W0 := ⟨_, rfl⟩
  rw [hW0] at hB0 hX0 ⊢
  have H0 := Lib.hid (H.out.below hB0); have HX0 := Lib.hid hX0; have HB0 : Hid (ButD base w W0) := Lib.hid (But.of_below hB0)
  clear hW0 hB0 hX0
  rw [← hn0] at HX0 ⊢
  have HN0 := Lib.hid hn0; clear hn0
  refine (tFiles W0 H0.out.obj (by have := H0.out.c1; have := H0.out.m1; omega)).mono ?_
  rintro e w1 ⟨ys, u, rfl, hr1, -, -, hD1, hb1⟩
  obtain ⟨ua, un, uc, rfl⟩ := own_slice hr1
  have H1 := Lib.hid (H0.out.turn hD1 hb1); have HX1 := Lib.hid (HX0.out.turn hb1); have HB1 := Lib.hid (butD_tr HB0.out hb1)
  have k1 := HX1.out.bd.cell
  have kl := HX1.out.bd.lt
  simp only [pt] at k1
  clear hr1 hD1 hb1
  go_wp2_with fail
  have hg2 := World.grownBy_alloc w1 (.cells #[.slice ua un uc] 53) none
  obtain ⟨w2, hw2⟩ : ∃ w2, w2 = w1.alloc (.cells #[.slice ua un uc] 53) := ⟨_, rfl⟩
  rw [← hw2] at hg2 ⊢
  have H2 := Lib.hid (H1.out.below (grown_below hg2)); have HX2 := Lib.hid (HX1.out.below (grown_below hg2)); have HB2 := Lib.hid (butD_tr HB1.out (But.of_below (grown_below hg2)))
  have HW2 := Lib.hid hw2
  clear hw2 hg2 k1
  refine (wopen_any first [] w2 H2.out.logR).mono ?_
  rintro e w3 ⟨N, u3, rfl, hW3, -, hD3, hb3⟩
  have H3 := Lib.hid (H2.out.turn hD3 hb3); have HX3 := Lib.hid (HX2.out.turn hb3); have HB3 := Lib.hid (butD_tr HB2.out hb3); have HW3 := Lib.hid hW3
  clear hW3 hD3 hb3
  simp only [pt]
  go_wp2_with fail
  refine (must_ok w3).mono ?_
  rintro e w3' ⟨rfl, rfl⟩
  have hsl := HS.out w3 HB3.out
  obtain ⟨va, vc, rfl, -⟩ := hsl
  have hll := HL.out
  go_wp2_with fail
  refine (put_any (l.length : Int) w3 (by omega) (by omega)).mono ?_
  rintro e w4 ⟨rfl, hb4⟩
  have H4 := Lib.hid (H3.out.below hb4); have HX4 := Lib.hid (HX3.out.below hb4); have HB4 := Lib.hid (butD_tr HB3.out (But.of_below hb4)); have HW4 := Lib.hid (HW3.out.below hb4)
  have hds := hd_size l.length
  have hdl := lenOf_bd (l.length : Int)
  obtain ⟨P, hP⟩ : ∃ P : ByteArray, P = ⟨(putL (l.length : Int)).toArray⟩ := ⟨_, rfl⟩
  have hPd : (⟨#[80]⟩ : ByteArray) ++ P = hdP l.length := by rw [hP]; rfl
  have hPs : P.size ≤ 9 := by
    have h1 : (hdP l.length).size = P.size + 1 := by rw [← hPd, one_size]
    omega
  rw [← hP]
  have HPD := Lib.hid hPd
  clear hb4 hds hdl hP hPd
  go_wp2_with fail
  have hPz : (hdP l.length).size ≤ 10 := by rw [← HPD.out, one_size]; omega
  rw [HPD.out]
  refine (bgAppend w4 (hdP l.length) HW4.out H4.out (by omega) (by omega)).mono ?_
  rintro e w5 ⟨rfl, h5, hb5⟩
  have H5 := Lib.hid h5; have HX5 := Lib.hid (HX4.out.turn hb5); have HB5 := Lib.hid (butD_tr HB4.out hb5); have HW5 := Lib.hid (HW4.out.grW (by decide) hb5)
  have hbo : (wrS s (hereA first (([] : List ByteArray).foldl appA [])) (frameB (hdP l.length))).boots = s.boots := by unfold wrS; split <;> rfl
  have HBO := Lib.hid hbo
  clear h5 hb5 hbo
  go_wp2_with fail
  refine (must_ok w5).mono ?_
  rintro e w5' ⟨rfl, rfl⟩

  go_wp2_with fail
  go_loopg [36] (l.length + 1) (fun g s36 wr => ∃ (i : Nat) (si : DkS), s36 = .int .i64 i ∧ i ≤ l.length ∧ l.length + 1 ≤ i + g ∧ si.boots = s.boots ∧ Hid (BgO base d (c + 1 + i) (m + 1 + i) first si (hdP l.length :: (l.take i).map tT) old p0 wr) ∧ Hid (BgX n0 d wr) ∧ Hid (Blk wr N 41 #[.bool true, pt d 0, .int .i64 first]) ∧ Hid (ButD base w wr))
  case atStart => exact ⟨0, _, rfl, by omega, by omega, HBO.out, H5, HX5, HW5, HB5⟩
  case round =>
    obtain ⟨i, si, rfl, hi, hg, hbo, HI, HXI, HWI, HBI⟩ := hrel
    by_cases hlt : i < l.length
    · obtain ⟨va', vc', e, -, -, -, hat⟩ := HS.out wr HBI.out
      cases e
      obtain ⟨gb, go, rfl, hr⟩ := hat i hlt
      have hz1 := HSZ.out l[i] (List.getElem_mem hlt)
      have hz : l[i]? = some l[i] := List.getElem?_eq_getElem hlt
      obtain ⟨z, hzz⟩ : ∃ z, z = l[i] := ⟨_, rfl⟩
      rw [← hzz] at hz1 hr hz
      have hg2 : wr.cell? ⟨gb, go + i, none⟩ = some (.string z) := by
        have h9 := hr 0 (.string z) rfl
        rw [Nat.mul_one] at h9
        exact h9
      have hTd : (⟨#[84]⟩ : ByteArray) ++ z = tT z := rfl
      have HTD := Lib.hid hTd; have HZ := Lib.hid hz; have HLT := Lib.hid hlt
      clear hat hr hzz hTd hz
      go_wp2_with fail
      have hTz : (tT z).size ≤ 60001 := by rw [← HTD.out, one_size]; omega
      rw [HTD.out]
      refine (bgAppend wr (tT z) HWI.out HI.out (by omega) (by omega)).mono ?_
      rintro e w6 ⟨rfl, h6, hb6⟩
      have HX6 := Lib.hid (HXI.out.turn hb6); have HB6 := Lib.hid (butD_tr HBI.out hb6); have HW6 := Lib.hid (HWI.out.grW (by decide) hb6)
      have hbo6 : (wrS si (hereA first ((hdP l.length :: (l.take i).map tT).foldl appA [])) (frameB (tT z))).boots = s.boots := by unfold wrS; split <;> exact hbo
      have hls : (hdP l.length :: (l.take i).map tT) ++ [tT z] = hdP l.length :: (l.take (i + 1)).map tT := by
        rw [List.take_add_one, HZ.out, List.map_append]; rfl
      rw [hls] at h6
      have H6 := Lib.hid h6; have HBO6 := Lib.hid hbo6
      clear h6 hb6 hbo6 hls hbo
      go_wp2_with fail
      refine (must_ok w6).mono ?_
      rintro e w6' ⟨rfl, rfl⟩
      go_wp2
      go_roundg (gk - 1)
      case rel => exact ⟨i + 1, _, by go_num, HLT.out, by omega, HBO6.out, H6, HX6, HW6, HB6⟩
      case measure => omega
    · have hq : i = l.length := by omega
      subst hq
      rw [List.take_length] at HI
      have k1 := HXI.out.bd.cell
      simp only [pt] at k1
      have HBOI := Lib.hid hbo
      clear hbo
      go_wp2_with fail
      refine (tSync wr HI.out.obj (HI.out.dk.hsb (by have := HI.out.m1; omega))).mono ?_
      rintro e w7 ⟨rfl, hD7, hb7⟩
      have HX7 := Lib.hid (HXI.out.turn hb7); have HB7 := Lib.hid (butD_tr HBI.out hb7); have HW7 := Lib.hid (HWI.out.grW (by decide) hb7); have HD7 := Lib.hid hD7
      have k2 := HX7.out.bd.cell
      simp only [pt] at k2
      clear hD7 hb7 k1
      have f0 := HX7.out.bl.frozen 0; have f1 := HX7.out.bl.frozen 1; have f2 := HX7.out.bl.frozen 2
      have d0 := HX7.out.bl.cell (k := 0) rfl; have d1 := HX7.out.bl.cell (k := 1) rfl; have d2 := HX7.out.bl.cell (k := 2) rfl
      have g0 := (Boxed.blkW HX7.out.be).frozen 0; have e0 := HX7.out.be.cell
      go_wp2
      have hnW : N ≠ n0 + 1 := fun e => by have h1 := HW7.out; rw [e] at h1; exact absurd (Option.some.inj (h1.symm.trans HX7.out.bl)) (by simp)
      have hnE : N ≠ n0 + 1 + 1 := fun e => by have h1 := HW7.out; rw [e] at h1; exact absurd (Option.some.inj (h1.symm.trans (Boxed.blkW HX7.out.be))) (by simp)
      have hne1 : n0 + 1 ≠ n0 + 1 + 1 := by omega
      have q0 := setCell_blk HX7.out.bl 0 (.pointer (some ⟨d, 0, none⟩))
      have q1 := setCell_blk q0 1 (.int .i64 first)
      have q2 := setCell_blk q1 2 (.pointer (some ⟨N, 0, none⟩))
      have q3 := q2.kept (grown_setCell _ (n0 + 1 + 1) 0 (.int .i64 0)) (fun e => hne1 (Option.some.inj e).symm)
      have r0 := (Boxed.blkW HX7.out.be).kept (grown_setCell _ (n0 + 1) 0 (.pointer (some ⟨d, 0, none⟩))) (fun e => hne1 (Option.some.inj e))
      have r1 := r0.kept (grown_setCell _ (n0 + 1) 1 (.int .i64 first)) (fun e => hne1 (Option.some.inj e))
      have r2 := r1.kept (grown_setCell _ (n0 + 1) 2 (.pointer (some ⟨N, 0, none⟩))) (fun e => hne1 (Option.some.inj e))
      have r3 := setCell_blk r2 0 (.int .i64 0)
      have n1 := HW7.out.kept (grown_setCell _ (n0 + 1) 0 (.pointer (some ⟨d, 0, none⟩))) (fun e => hnW (Option.some.inj e).symm)
      have n2 := n1.kept (grown_setCell _ (n0 + 1) 1 (.int .i64 first)) (fun e => hnW (Option.some.inj e).symm)
      have n3 := n2.kept (grown_setCell _ (n0 + 1) 2 (.pointer (some ⟨N, 0, none⟩))) (fun e => hnW (Option.some.inj e).symm)
      have n4 := n3.kept (grown_setCell _ (n0 + 1 + 1) 0 (.int .i64 0)) (fun e => hnE (Option.some.inj e).symm)
      have o1 := HD7.out.at HX7.out.bl (by decide) (grown_setCell _ (n0 + 1) 0 (.pointer (some ⟨d, 0, none⟩)))
      have o2 := o1.at q0 (by decide) (grown_setCell _ (n0 + 1) 1 (.int .i64 first))
      have o3 := o2.at q1 (by decide) (grown_setCell _ (n0 + 1) 2 (.pointer (some ⟨N, 0, none⟩)))
      have o4 := o3.at r2 (by decide) (grown_setCell _ (n0 + 1 + 1) 0 (.int .i64 0))
      have hn9 := HN0.out
      have b4 := (((HB7.out.setCell (p := ⟨n0 + 1, 0, none⟩) (fun hp => absurd hp (by simp only; omega)) (.pointer (some ⟨d, 0, none⟩))).setCell (p := ⟨n0 + 1, 1, none⟩) (fun hp => absurd hp (by simp only; omega)) (.int .i64 first)).setCell (p := ⟨n0 + 1, 2, none⟩) (fun hp => absurd hp (by simp only; omega)) (.pointer (some ⟨N, 0, none⟩))).setCell (p := ⟨n0 + 1 + 1, 0, none⟩) (fun hp => absurd hp (by simp only; omega)) (.int .i64 0)
      obtain ⟨W8, hW8⟩ : ∃ W8, ((((w7.setCell ⟨n0 + 1, 0, none⟩ (.pointer (some ⟨d, 0, none⟩))).setCell ⟨n0 + 1, 1, none⟩ (.int .i64 first)).setCell ⟨n0 + 1, 2, none⟩ (.pointer (some ⟨N, 0, none⟩))).setCell ⟨n0 + 1 + 1, 0, none⟩ (.int .i64 0)) = W8 := ⟨_, rfl⟩
      rw [hW8] at q3 r3 n4 o4 b4 ⊢
      have x0 := q3.cell (k := 0) rfl; have x1 := q3.cell (k := 1) rfl; have x2 := q3.cell (k := 2) rfl; have x3 := r3.cell (k := 0) rfl
      have X0 := Lib.hid x0; have X1 := Lib.hid x1; have X2 := Lib.hid x2; have X3 := Lib.hid x3; have XN := Lib.hid n4; have XO := Lib.hid o4; have XB := Lib.hid b4
      clear hW8 q0 q1 q2 q3 r0 r1 r2 r3 n1 n2 n3 n4 o1 o2 o3 o4 b4 f0 f1 f2 d0 d1 d2 g0 e0 hn9 hnW hnE hne1 x0 x1 x2 x3
      refine leaves_cons (f := 51) (args := #[.pointer (some ⟨n0, 0, none⟩), .pointer (some ⟨w1.heap.size, 0, none⟩), .pointer (some ⟨n0 + 1, 0, none⟩), .pointer (some ⟨n0 + 1 + 1, 0, none⟩)]) (by simp) (by simp [go_sem]) ?_
      refine (bg_idle _ _ _ _ _).mono ?_
      rintro e u' w'' ⟨rfl, rfl, rfl⟩
      simp only [Leaves, settle, results, Tryd.results37]
      have x0 := X0.out; have x1 := X1.out; have x2 := X2.out; have x3 := X3.out
      simp [go_sem, x0, x1, x2, x3]
      exact ⟨XN.out, c + 1 + l.length + si.ps.length, _, _, HI.out.log.sync, XO.out, (by have := HI.out.c1; have := HI.out.m1; have := HI.out.dk.pl; omega), HI.out.dk.sync.1.up (by omega), HBOI.out, XB.out, fun e1 e2 k hk => by (rw [if_neg (by omega)]; exact HI.out.log.sync_old e1 e2 k hk)⟩
end Go.Proofs.YtfiplhnplmadmaaDoor

/- Package point: a point as one object; Append, Sync, Texts, New, Save on it. Conditions: at most 600 calls. -/
namespace Go.Proofs.YtfiplhnplmadmaaDoor
open Go.RowKit Go.PlainAid Go.Shelf
set_option linter.unusedVariables false

/-- A point that holds texts L; 'sure' of them are safe, cp of them came with the checkpoint; m calls at most. -/
def PtO (base : Nat) (w : World) (d m p : Nat) (L : List ByteArray) (sure cp : Nat) (A : List WSeg) : Prop :=
  ∃ (first : Int) (xs : List ByteArray) (N : Nat), Blk w p 61 #[.bool true, pt d 0, .int .i64 first, pt N 0] ∧ Blk w N 41 #[.bool true, pt d 0, .int .i64 first] ∧ WlO base w d m first A xs ∧
    txtA A = hdP cp :: (L.take sure).map tT ∧ xs = (L.drop sure).map tT ∧ cp ≤ sure ∧ sure ≤ L.length ∧ (first ≤ 1 + (m : Int) * 1000 ∧ base ≤ p)
section
variable {base d m p : Nat} {L : List ByteArray} {sure cp : Nat} {A : List WSeg} {w x : World}
theorem PtO.turnD (h : PtO base w d m p L sure cp A) (hD : ∀ m first A xs, WlO base w d m first A xs → WlO base x d m first A xs) (hb : ButD base w x) : PtO base x d m p L sure cp A := by
  obtain ⟨first, xs, N, h1, h2, h3, h4⟩ := h; exact ⟨first, xs, N, blkD h1 (by decide) hb, blkD h2 (by decide) hb, hD _ _ _ _ h3, h4⟩
theorem PtO.call (h : PtO base w d m p L sure cp A) (hb : Below w.heap.size w x) : PtO base x d m p L sure cp A := h.turnD (fun _ _ _ _ h => h.call hb) (But.of_below hb)
theorem PtO.new (h : PtO base w d m p L sure cp A) (hg : w.grownBy x none) : PtO base x d m p L sure cp A := by
  obtain ⟨first, xs, N, h1, h2, h3, h4⟩ := h; exact ⟨first, xs, N, h1.kept hg (fun e => nomatch e), h2.kept hg (fun e => nomatch e), h3.new hg, h4⟩
theorem PtO.row {B sz k : Nat} {e : TypeId} {v : Value} {ys : List Value} (h : PtO base w d m p L sure cp A) (hr : w.ownsRow B e sz v k ys) (hT : offD e) (hP : e ≠ 61) (hW : e ≠ 41) (hg : w.grownBy x v.ownBlock) : PtO base x d m p L sure cp A := by
  obtain ⟨first, xs, N, h1, h2, h3, h4⟩ := h; exact ⟨first, xs, N, h1.kept hg (own_neT hr h1 hP), h2.kept hg (own_neT hr h2 hW), h3.row hr hT hg, h4⟩
theorem PtO.up {m' : Nat} (h : PtO base w d m p L sure cp A) (hm : m ≤ m') : PtO base w d m' p L sure cp A := by
  obtain ⟨first, xs, N, h1, h2, h3, h4, h5, h6, h7, h8⟩ := h; exact ⟨first, xs, N, h1, h2, h3.up hm, h4, h5, h6, h7, by omega, h8.2⟩
theorem PtO.eq {L' : List ByteArray} {s' : Nat} {A' : List WSeg} (h : PtO base w d m p L sure cp A) (e1 : L = L') (e2 : sure = s') (e3 : A = A') : PtO base w d m p L' s' cp A' := by subst e1 e2 e3; exact h
theorem PtO.len (h : PtO base w d m p L sure cp A) : L.length ≤ m ∧ sure ≤ L.length ∧ cp ≤ sure := by
  obtain ⟨first, xs, N, h1, h2, h3, h4, h5, h6, h7, h8⟩ := h
  have := h3.len.2
  rw [h4, h5, List.length_cons, List.length_map, List.length_map, List.length_take, List.length_drop] at this
  omega
set_option maxRecDepth 100000 in
theorem pzero_any {a b c : Value} (w : World) (hB : Blk w p 61 #[.bool true, a, b, c]) : Calls Tryd.prog 38 #[pt p 0] w fun e w' => e = .returned (.bool false) ∧ w = w' := by
  have c0 := hB.cell (k := 0) rfl
  clear hB
  go_enter Tryd.func38, Tryd.ntmps38
  simp only [pt]
  go_wp2
  go_ret
  exact ⟨rfl, rfl⟩
set_option maxRecDepth 100000 in
set_option maxHeartbeats 4000000 in
theorem ptAppend (w : World) (t : ByteArray) (h : PtO base w d m p L sure cp A) (hm : m ≤ 800) (ht : Tab w) (hb : 0 < base) (hsz : t.size ≤ 60000) : Calls Tryd.prog 21 #[pt p 0, .string t] w fun e w' => e = .returned (.int .i64 0) ∧ PtO base w' d (m + 1) p (L ++ [t]) sure cp A ∧ ButD base w w' := by
  obtain ⟨first, xs, N, h1, h2, h3, h4, h5, h6, h7, h8⟩ := h
  have c3 : w.cell? ⟨p, 3, none⟩ = some (.pointer (some ⟨N, 0, none⟩)) := h1.cell (k := 3) rfl
  have H1 := Lib.hid h1; have H2 := Lib.hid h2; have H3 := Lib.hid h3; have HT := Lib.hid ht; have H4 := Lib.hid h4; have H5 := Lib.hid h5
  have hTd : (⟨#[84]⟩ : ByteArray) ++ t = tT t := rfl
  have HTD := Lib.hid hTd
  clear h1 h2 h3 ht h4 h5 hTd
  go_enter Tryd.func21, Tryd.ntmps21
  simp only [pt]
  go_wp2_with fail
  refine (pzero_any w H1.out).mono ?_
  rintro e w1 ⟨rfl, rfl⟩
  have hsq : decide ((65536 : Int) ≤ (t.size : Int)) = false := decide_eq_false (by omega)
  have HSZ := Lib.hid hsz
  have hszz : t.size ≤ 9223372036854775000 := Nat.le_trans hsz (by decide)
  clear hsz
  go_wp2_with fail
  have hTz : (tT t).size ≤ 60001 := by have := HSZ.out; rw [← HTD.out, one_size]; omega
  rw [HTD.out]
  refine (wlAppend w (tT t) H2.out H3.out hm HT.out hb (by omega)).mono ?_
  rintro e w2 ⟨rfl, h9, hb9⟩
  have H9 := Lib.hid h9; have HB9 := Lib.hid hb9
  clear h9 hb9
  go_wp2
  go_ret
  refine ⟨rfl, ⟨first, _, N, blkD H1.out (by decide) HB9.out, blkD H2.out (by decide) HB9.out, H9.out, ?_, ?_, h6, by simp; omega, by omega, h8.2⟩, HB9.out⟩
  · rw [H4.out, List.take_append_of_le_length h7]
  · rw [H5.out, List.drop_append_of_le_length h7, List.map_append]; rfl
set_option maxRecDepth 100000 in
set_option maxHeartbeats 4000000 in
theorem ptTexts (w : World) (h : PtO base w d m p L sure cp A) (hm : m ≤ 900) (ht : Tab w) (hb : 0 < base) : Calls Tryd.prog 23 #[pt p 0] w fun e w' => ∃ u : Value, e = .returned u ∧ w'.ownsRow w.heap.size 9 1 u L.length (L.flatMap strE) ∧ PtO base w' d m p L sure cp A ∧ ButD base w w' := by
  have hln := h.len
  obtain ⟨first, xs, N, h1, h2, h3, h4, h5, h6, h7, h8⟩ := h
  have hL : ownB (txtA A ++ xs) = L := by rw [h4, h5, List.cons_append, ← List.map_append, List.take_append_drop, own_log]
  have hLn : (txtA A ++ xs).length ≤ 1000000 := by rw [List.length_append]; have := h3.len.2; omega
  have c1 : w.cell? ⟨p, 1, none⟩ = some (.pointer (some ⟨d, 0, none⟩)) := h1.cell (k := 1) rfl
  have c2 := h1.cell (k := 2) rfl
  have H1 := Lib.hid h1; have H2 := Lib.hid h2; have H3 := Lib.hid h3; have H4 := Lib.hid h4; have H5 := Lib.hid h5; have HT := Lib.hid ht; have HLL := Lib.hid hL
  have HM := Lib.hid hm
  clear h1 h2 h3 h4 h5 ht hL hm
  go_enter Tryd.func23, Tryd.ntmps23
  simp only [pt]
  go_wp2_with fail
  refine (pzero_any w H1.out).mono ?_
  rintro e w1 ⟨rfl, rfl⟩
  go_wp2_with fail
  go_region_law (go_simp; go_at_call 16; refine (wlRead _ (H3.out.new (drew_grown _)) HM.out (HT.out.below (grown_below (drew_grown _))) hb).mono ?_; rintro e w2 ⟨u2, rfl, hr2, h9, hb9⟩)
  all_goals (have hsz2 := (grown_below (drew_grown w)).size; have hr3 := row_lows hr2 hsz2; have HR2 := Lib.hid hr3; have H9 := Lib.hid h9; have HB9 := Lib.hid (butD_tr (But.of_below (grown_below (drew_grown w))) hb9); clear hr2 h9 hb9 hsz2 hr3; go_wp2_with fail)
  all_goals (refine (own_any u2 _ w2 (SliceOf.own HR2.out (fun _ _ => rfl)) hLn).mono ?_; rintro e w3 ⟨u3, rfl, hr3, hb3⟩; have hsz3 := HB9.out.size; rw [HLL.out] at hr3; have hr4 := row_lows hr3 hsz3; have HR3 := Lib.hid hr4; have HB3 := Lib.hid hb3; clear hr3 hr4 hb3)
  all_goals (go_wp2; go_ret; exact ⟨_, rfl, HR3.out, ⟨first, xs, N, (blkD H1.out (by decide) HB9.out).below HB3.out, (blkD H2.out (by decide) HB9.out).below HB3.out, H9.out.call HB3.out, H4.out, H5.out, h6, h7, h8⟩, butD_tr HB9.out (But.of_below HB3.out)⟩)
/-- What Save changes: the disk's, and the point. -/
abbrev ButP (base p : Nat) (w x : World) : Prop := But (fun k => SD base w k ∨ k = p) w x
theorem butP_of (hb : ButD base w x) : ButP base p w x := hb.mono (fun k _ hk => .inl hk)
theorem butP_tr {A B : World} (h : ButP base p w A) (g : ButD base A B) : ButP base p w B :=
  h.trans' g (fun i hi hs => by
    by_cases hq : SD base w i ∨ i = p
    · exact hq
    · have e := h.block i hi hq
      have h2 := hs.2
      unfold TyS at h2; rw [e] at h2; exact .inl ⟨hs.1, h2⟩)
theorem rowP {B sz k : Nat} {e : TypeId} {v : Value} {ys : List Value} {cs : Array Value} (hr : w.ownsRow B e sz v k ys) (hT : offD e) (hb : ButP base p w x) (hp : Blk w p 61 cs) (hP : e ≠ 61) : x.ownsRow B e sz v k ys :=
  row_same hr hb.size fun i hi => by
    obtain ⟨cs2, hc⟩ := row_block hr hi
    refine hb.block i (Array.getElem?_eq_some_iff.1 hc).1 (fun h => ?_)
    rcases h with h | h
    · exact not_ty hc hT h.2
    · subst h; exact own_neT hr hp hP hi
theorem hbP {w0 : World} (h : Below w0.heap.size w0 w) (hb : ButP w0.heap.size p w x) (hp : w0.heap.size ≤ p) : Below w0.heap.size w0 x := below_but h hb h.size (fun i _ h => by rcases h with h | h; exact h.1; omega)
theorem PtO.blk (h : PtO base w d m p L sure cp A) : ∃ cs, Blk w p 61 cs := by obtain ⟨first, xs, N, h1, -⟩ := h; exact ⟨_, h1⟩
theorem PtO.lo (h : PtO base w d m p L sure cp A) : base ≤ p := by obtain ⟨first, xs, N, h1, h2, h3, h4, h5, h6, h7, h8⟩ := h; exact h8.2
end
end Go.Proofs.YtfiplhnplmadmaaDoor

/- Package point: New, Save on a point. Conditions: at most 500 calls. -/
namespace Go.Proofs.YtfiplhnplmadmaaDoor
open Go.RowKit Go.PlainAid Go.Shelf
set_option linter.unusedVariables false
section
variable {base d m p : Nat} {L : List ByteArray} {sure cp : Nat} {A : List WSeg} {w x : World}
theorem WSG.drop {s : DkS} {first : Int} {A : List WSeg} {old : Int → Option FileM} (h : WSG s first A [] old []) : WSt (dropF (fun k => decide (first ≤ k)) s) first A [] :=
  ⟨fun k => by
    show (if decide (first ≤ k) = true then s.fm k else none) = _
    by_cases hl : first ≤ k
    · rw [if_pos (decide_eq_true hl), h.on k, if_pos hl]
    · rw [if_neg (by rw [decide_eq_false hl]; decide)]; unfold flW; rw [if_neg hl], h.ps, h.ok, h.tx⟩
theorem DkI.drop {s : DkS} (h : DkI s m) (hp : s.ps = []) (Q : Int → Bool) : DkI (dropF Q s) m := by
  have hg : ∀ k, getF (dropF Q s).fm k = if Q k = true then getF s.fm k else mz := fun k => by
    unfold getF dropF
    by_cases hq : Q k = true
    · simp only [hq, if_true]
    · simp [hq]
  refine ⟨fun k => ?_, fun q hq => ?_, fun k => ?_, fun k => ?_, h.tot, h.pl, fun k hk => ?_⟩
  · rw [hg]; split
    · exact h.len k
    · show ((0 : Nat) : Int) ≤ _; omega
  · have : q ∈ s.ps := hq
    rw [hp] at this; cases this
  · have h1 := h.sum k
    show _ + sumK s.ps k = _
    rw [hp] at h1 ⊢
    rw [hg]; split
    · exact h1
    · rfl
  · rw [hg]; split
    · exact h.saf k
    · exact Int.le_refl 0
  · have hq : Q k = true ∧ (s.fm k).isSome = true := by
      have hk2 : (if Q k = true then s.fm k else none).isSome = true := hk
      by_cases hq : Q k = true
      · rw [if_pos hq] at hk2; exact ⟨hq, hk2⟩
      · rw [if_neg hq] at hk2; cases hk2
    rcases h.cov k hq.2 with h1 | ⟨q, h1, h2⟩
    · left; rw [hg, if_pos hq.1]; exact h1
    · rw [hp] at h1; cases h1
def sgA (first : Int) (A : List WSeg) (k : Int) : WSeg := if first ≤ k then (A[(k - first).toNat]?).getD ⟨[], ⟨#[]⟩⟩ else ⟨[], ⟨#[]⟩⟩
theorem sgA_ok {first : Int} {A : List WSeg} (h : OkA A) (k : Int) : SegOk (sgA first A k) := by
  have h0 : SegOk ⟨[], ⟨#[]⟩⟩ := segOk_whole (fun x hx => by cases hx)
  unfold sgA; split
  · cases hA : A[(k - first).toNat]? with
    | none => exact h0
    | some y => exact h y (List.mem_of_getElem? hA)
  · exact h0
theorem txt_mem {A : List WSeg} {y : WSeg} (h : y ∈ A) : y.T.length ≤ (txtA A).length := by
  obtain ⟨l1, l2, rfl⟩ := List.append_of_mem h
  unfold txtA
  rw [List.flatMap_append, List.flatMap_cons, List.length_append, List.length_append]; omega
theorem WSt.sgs {s : DkS} {first : Int} {A : List WSeg} {xs : List ByteArray} (h : WSt s first A xs) (hI : DkI s m) (hm : m ≤ 900) (ht : (txtA A).length + xs.length ≤ m) :
    (∀ k, SegOk (sgA first (xs.foldl appA A) k) ∧ datF s.fm k = (sgA first (xs.foldl appA A) k).b ∧ (sgA first (xs.foldl appA A) k).b.size ≤ 1000000000) ∧ ∀ k, (sgA first (xs.foldl appA A) k).T.length ≤ 1000000 := by
  have hb : ∀ k, (getF s.fm k).1 = (sgA first (xs.foldl appA A) k).b.data.toList := fun k => by
    unfold getF; rw [h.on k]; unfold flW sgA
    by_cases hl : first ≤ k
    · rw [if_pos hl, if_pos hl]
      cases hA : (xs.foldl appA A)[(k - first).toNat]? with
      | none => rfl
      | some y => simp [bytA, hA]
    · rw [if_neg hl, if_neg hl]; rfl
  refine ⟨fun k => ⟨sgA_ok (h.ok.run h.tx) k, ?_, ?_⟩, fun k => ?_⟩
  · unfold datF; rw [hb]
  · have h1 := hI.len k
    rw [hb, list_len] at h1
    omega
  · unfold sgA; split
    · cases hA : (xs.foldl appA A)[(k - first).toNat]? with
      | none => show 0 ≤ _; omega
      | some y =>
        have h1 := txt_mem (List.mem_of_getElem? hA)
        rw [txt_run, List.length_append] at h1
        show y.T.length ≤ _; omega
    · show 0 ≤ _; omega
theorem WlO.bg {s : DkS} {first : Int} {A : List WSeg} {xs : List ByteArray} (hX : WlX base w d m first A xs s) (hm : m ≤ 700) (hf : first ≤ 900000000) (ht : Tab w) (hb : 0 < base) : BgO base d (xs.foldl appA A).length m (first + ((xs.foldl appA A).length : Int)) s [] s.fm s.ps w := by
  obtain ⟨h1, h2, h3, h4, h5, h6, h7, h8, h9⟩ := hX
  have hl := run_len xs A
  exact ⟨h1, h2.next, h3, ht, hb, by omega, by omega, by omega, Nat.zero_le _⟩
/-- What begin leaves, as a log. -/
theorem wl_of {s : DkS} {next : Int} {c' n : Nat} {l : List ByteArray} (hW : WSt s next ((hdP n :: l.map tT).foldl appA []) []) (hO : DObj base w d c' s) (hI : DkI s (m + l.length + 1)) (hb0 : 0 ≤ s.boots) (hb1 : s.boots ≤ (m : Int) + 1) (h1 : 1 ≤ next) (h2 : next ≤ 1000000000) : WlO base w d (m + l.length + 1) next ((hdP n :: l.map tT).foldl appA []) [] := by
  have hk := hO.tight (hW.on.keys)
  rw [segN_len] at hk
  have hl := run_len (hdP n :: l.map tT) []
  rw [List.length_cons, List.length_map, List.length_nil] at hl
  have ht := txt_run (hdP n :: l.map tT) []
  refine ⟨s, hk, hW, hI, hb0, by omega, (by first | omega | (simp only [List.length_nil]; omega)), ?_, h1, h2⟩
  rw [ht]; simp [txtA] <;> omega
set_option maxRecDepth 100000 in
set_option maxHeartbeats 4000000 in
theorem ptNew (w : World) (h : WlO base w d 0 1 [] []) (ht : Tab w) (hb : 0 < base) : Calls Tryd.prog 20 #[pt d 0] w fun e w' => ∃ p : Nat, e = .returned (.tuple #[pt p 0, .int .i64 0]) ∧ PtO base w' d 1 p [] 0 0 ([hdP 0].foldl appA []) ∧ ButD base w w' := by
  obtain ⟨s, hX⟩ := h
  have hX : WlX base w d 0 1 [] [] s := hX
  have HX := Lib.hid hX; have HT := Lib.hid ht
  have hn : ∀ k, s.fm k = none := fun k => by rw [hX.2.1.on k]; unfold flW; simp
  have hps : s.ps = [] := hX.2.1.ps
  have HN := Lib.hid hn; have HPS := Lib.hid hps
  clear hX ht hn hps
  go_enter Tryd.func20, Tryd.ntmps20
  simp only [pt]
  go_wp2_with fail
  refine (tFiles w HX.out.1 (by decide)).mono ?_
  rintro e w1 ⟨ys, u, rfl, hr1, hK1, -, hD1, hb1⟩
  have hy : ys = [] := List.eq_nil_iff_forall_not_mem.2 (fun k hk => by have h9 := (hK1.2 k).1 hk; rw [HN.out k] at h9; cases h9)
  subst hy
  obtain ⟨ua, uc, rfl, -, -⟩ := row_view hr1
  have HD1 := Lib.hid hD1; have HB1 := Lib.hid hb1
  clear hr1 hK1 hD1 hb1
  go_wp2_with fail
  have hB : BgO base d 0 0 1 s [] s.fm s.ps w1 := (WlO.bg (m := 0) (first := 1) (A := []) (xs := []) (show WlX base w1 d 0 1 [] [] s from ⟨HD1.out, HX.out.2⟩) (by decide) (by decide) (tab_butD HT.out HB1.out hb) hb)
  refine (begin_any (.slice none 0 0) [] w1 hB (fun X _ => ⟨none, 0, rfl, Nat.le_refl _, by decide, fun _ => ⟨rfl, rfl⟩, fun j hj => absurd hj (by simp)⟩) (by decide) (fun z hz => by cases hz)).mono ?_
  rintro e w2 ⟨N, c', s', old', rfl, hW2, hG2, hD2, hc2, hI2, hbo2, hb2, hol2⟩
  have hold := hol2 HPS.out (fun k _ => HN.out k)
  have hbo := HX.out.2.2.2
  have hw2 := wl_of (m := 0) (hG2.toW hold) hD2 hI2 (by rw [hbo2]; exact hbo.1) (by rw [hbo2]; have := hbo.2.1; omega) (by decide) (by decide)
  have hq2 : txtA ((hdP ([] : List ByteArray).length :: ([] : List ByteArray).map tT).foldl appA []) = [hdP 0] := by rw [txt_run]; rfl
  have HQ2 := Lib.hid hq2
  have HW2 := Lib.hid hW2; have HO2 := Lib.hid hw2; have HB2 := Lib.hid (butD_tr HB1.out hb2)
  clear hW2 hG2 hD2 hc2 hI2 hbo2 hb2 hol2 hold hbo hw2 hq2 hB
  simp only [pt]
  go_wp2
  have hg1 := World.grownBy_alloc w2 (.cells #[.pointer (some ⟨d, 0, none⟩), .int .i64 1, .pointer (some ⟨N, 0, none⟩)] 59) none
  have hg2 := World.grownBy_alloc (w2.alloc (.cells #[.pointer (some ⟨d, 0, none⟩), .int .i64 1, .pointer (some ⟨N, 0, none⟩)] 59)) (.cells #[.bool true, .pointer (some ⟨d, 0, none⟩), .int .i64 1, .pointer (some ⟨N, 0, none⟩)] 61) none
  have hP := World.alloc_heap_new (w2.alloc (.cells #[.pointer (some ⟨d, 0, none⟩), .int .i64 1, .pointer (some ⟨N, 0, none⟩)] 59)) (.cells #[.bool true, .pointer (some ⟨d, 0, none⟩), .int .i64 1, .pointer (some ⟨N, 0, none⟩)] 61)
  rw [World.size_alloc] at hP
  go_ret2
  exact ⟨_, rfl, ⟨1, [], N, hP, (HW2.out.kept hg1 (fun e => nomatch e)).kept hg2 (fun e => nomatch e), (HO2.out.new hg1).new hg2, HQ2.out, rfl, Nat.le_refl _, Nat.le_refl _, by decide, (by have h1 := HX.out.1.lo; have h2 := HB2.out.size; omega)⟩, butD_tr (butD_tr HB2.out (But.of_below (grown_below hg1))) (But.of_below (grown_below hg2))⟩
set_option maxRecDepth 100000 in
set_option maxHeartbeats 8000000 in
theorem ptSave (v : Value) (l : List ByteArray) (w : World) (h : PtO base w d m p L sure cp A) (hs : ∀ X, ButD base w X → SliceOf strE 1 X v l) (hl : l.length + m ≤ 500) (hsz : ∀ z ∈ l, z.size ≤ 60000) (ht : Tab w) (hb : 0 < base) : Calls Tryd.prog 25 #[pt p 0, v] w fun e w' => e = .returned (.int .i64 0) ∧ PtO base w' d (m + l.length + 1) p l l.length l.length ((hdP l.length :: l.map tT).foldl appA []) ∧ ButP base p w w' := by
  have hmf : ∀ (fn : Fn) (first cap : Array Value) (w : World), (Instr.makeFunc fn first cap).run Tryd.prog w = .ok (.func fn first cap) w := fun _ _ _ _ => rfl
  obtain ⟨first, xs, N, h1, h2, h3, h4, h5, h6, h7, h8⟩ := h
  obtain ⟨s, hX⟩ := h3
  have hX : WlX base w d m first A xs s := hX
  have H1 := Lib.hid h1; have H2 := Lib.hid h2; have HX := Lib.hid hX; have HT := Lib.hid ht; have HS := Lib.hid hs; have HSZ := Lib.hid hsz; have HL := Lib.hid hl; have H8 := Lib.hid h8
  have hle : l.length ≤ 500 := by omega
  clear h1 h2 hX ht hs hsz hl h4 h5 h6 h7 h8
  go_enter Tryd.func25, Tryd.ntmps25
  simp only [pt]
  go_wp2_with fail
  refine (pzero_any w H1.out).mono ?_
  rintro e w1 ⟨rfl, rfl⟩
  obtain ⟨va, vc, rfl, -⟩ := HS.out w (But.refl _ _)
  go_wp2_with fail
  go_loopg [14] (l.length + 1) (fun g s14 wr => ∃ i : Nat, s14 = .int .i64 i ∧ i ≤ l.length ∧ l.length + 1 ≤ i + g ∧ w = wr)
  case atStart => exact ⟨0, rfl, by omega, by omega, rfl⟩
  case round =>
    obtain ⟨i, rfl, hi, hg, rfl⟩ := hrel
    by_cases hlt : i < l.length
    · obtain ⟨va', vc', e, -, -, -, hat⟩ := HS.out w (But.refl _ _)
      cases e
      obtain ⟨gb, go, rfl, hr⟩ := hat i hlt
      have hz1 := HSZ.out l[i] (List.getElem_mem hlt)
      obtain ⟨z, hzz⟩ : ∃ z, z = l[i] := ⟨_, rfl⟩
      rw [← hzz] at hz1 hr
      have hg2 : w.cell? ⟨gb, go + i, none⟩ = some (.string z) := by
        have h9 := hr 0 (.string z) rfl
        rw [Nat.mul_one] at h9
        exact h9
      have hsq : decide ((65536 : Int) ≤ (z.size : Int)) = false := decide_eq_false (by omega)
      have hszz : z.size ≤ 9223372036854775000 := Nat.le_trans hz1 (by decide)
      have HLT := Lib.hid hlt
      clear hat hr hzz hz1
      go_wp2
      go_roundg (gk - 1)
      case rel => exact ⟨i + 1, by go_num, HLT.out, by omega, rfl⟩
      case measure => omega
    · have hq : i = l.length := by omega
      subst hq
      have c2 := H1.out.cell (k := 2) rfl
      have hlg := HX.out.2.1.logs
      obtain ⟨k1, k2⟩ := HX.out.2.1.sgs HX.out.2.2.1 (by have := HL.out; omega) HX.out.2.2.2.2.2.2.1
      have hrl := run_len xs A
      have hxl := HX.out.2.2.2.2.2.1
      have hLL := HL.out
      have hDs : DsO base d (xs.foldl appA A).length s (sgA first (xs.foldl appA A)) w := ⟨HX.out.1, by omega, k1, k2, HT.out, hb⟩
      have h8 := H8.out
      have hfb : 1 ≤ first ∧ first ≤ 900000000 := ⟨HX.out.2.2.2.2.2.2.2.1, by omega⟩
      have HLG := Lib.hid hlg; have HDS := Lib.hid hDs; have HFB := Lib.hid hfb; have HRL : Hid ((xs.foldl appA A).length ≤ m) := Lib.hid (by omega)
      obtain ⟨nA, hnA⟩ : ∃ n, n = (xs.foldl appA A).length := ⟨_, rfl⟩
      have hnm : nA ≤ 500 := by have := HRL.out; omega
      have HNA := Lib.hid hnA
      clear hnA hlg hDs k1 k2 hrl hxl h8
      go_wp2_with fail
      have lp := H1.out.lt
      have hz9 : -9223372036854775808 ≤ first + (nA : Int) ∧ first + (nA : Int) ≤ 9223372036854775807 := by omega
      go_region_law (go_simp; go_at_call 43; first
        | (refine (psegs_any p N first _ _ (HDS.out.below (grown_below (drew_grown _))) HLG.out (by have := HFB.out; omega) (H1.out.below (grown_below (drew_grown _)))).mono ?_; rintro e w2 ⟨u2, rfl, hr2, h9, hb9⟩; rw [← HNA.out] at hr2; obtain ⟨ua, uc, rfl, -, -⟩ := row_view hr2; have q2 := (blkD (H1.out.below (grown_below (drew_grown _))) (by decide) hb9).cell (k := 2) rfl; have l2 := (blkD (H1.out.below (grown_below (drew_grown _))) (by decide) hb9).lt; have H9 := Lib.hid h9; have HB9 := Lib.hid (butD_tr (But.of_below (grown_below (drew_grown w))) hb9); clear h9 hb9 hr2)
        | (have hgw := (World.grownBy_alloc w (.cells #[.int .i64 0] 3) none).trans (drew_grown _); refine (psegs_any p N first _ _ (HDS.out.below (grown_below hgw)) HLG.out (by have := HFB.out; omega) (H1.out.below (grown_below hgw))).mono ?_; rintro e w2 ⟨u2, rfl, hr2, h9, hb9⟩; rw [← HNA.out] at hr2; obtain ⟨ua, uc, rfl, -, -⟩ := row_view hr2
           have hbx : Blk (w.alloc (.cells #[.int .i64 0] 3)).drew w.heap.size 3 #[.int .i64 0] := Blk.kept (World.alloc_heap_new w _) (drew_grown _) (fun e => nomatch e)
           have hbx2 := blkD hbx (by decide) hb9; have q2 := (blkD (H1.out.below (grown_below hgw)) (by decide) hb9).cell (k := 2) rfl; have k0 := hbx2.cell (k := 0) rfl; have f0 := hbx2.frozen 0; have HX2 := Lib.hid hbx2
           have H9 := Lib.hid h9; have HB9 := Lib.hid (butD_tr (But.of_below (grown_below hgw)) hb9); clear h9 hb9 hr2 hbx hbx2 hgw))
      all_goals (have hwr : IntKind.i64.wrap (first + (nA : Int)) = first + (nA : Int) := IntWalk.i64_in _ hz9)
      all_goals (try rw [hwr])
      all_goals (clear q2 lp c2 hwr)
      all_goals (try clear l2)
      all_goals (try clear k0 f0)
      all_goals (first
        | (obtain ⟨W3, hW3⟩ : ∃ W3, w2.alloc (.cells #[.int .i64 (first + (nA : Int))] 3) = W3 := ⟨_, rfl⟩
           rw [hW3]
           have hgA := World.grownBy_alloc w2 (.cells #[.int .i64 (first + (nA : Int))] 3) none
           have hx3 : Boxed (w2.alloc (.cells #[.int .i64 (first + (nA : Int))] 3)) w2.heap.size 3 (.int .i64 (first + (nA : Int))) := Boxed.new w2 _ _
           obtain ⟨bn, hbn⟩ : ∃ bn, bn = w2.heap.size := ⟨_, rfl⟩
           rw [← hbn] at hx3 ⊢
           rw [hW3] at hgA hx3
           have HX3 := Lib.hid hx3; have HO3 := Lib.hid (H9.out.obj.new hgA); have HB3 := Lib.hid (butD_tr HB9.out (But.of_below (grown_below hgA)))
           clear hW3 hgA hx3 hbn)
        | (obtain ⟨W3, hW3⟩ : ∃ W3, w2.setCell ⟨w.heap.size, 0, none⟩ (.int .i64 (first + (nA : Int))) = W3 := ⟨_, rfl⟩
           rw [hW3]
           have hx3 := setCell_blk HX2.out 0 (.int .i64 (first + (nA : Int)))
           have hx4 : Boxed (w2.setCell ⟨w.heap.size, 0, none⟩ (.int .i64 (first + (nA : Int)))) w.heap.size 3 (.int .i64 (first + (nA : Int))) := hx3
           have ho3 := H9.out.obj.at HX2.out (by decide) (grown_setCell _ w.heap.size 0 (.int .i64 (first + (nA : Int))))
           have hb3 := HB9.out.setCell (p := ⟨w.heap.size, 0, none⟩) (fun hp => absurd hp (by simp)) (.int .i64 (first + (nA : Int)))
           obtain ⟨bn, hbn⟩ : ∃ bn, bn = w.heap.size := ⟨_, rfl⟩
           rw [hW3] at hx4 ho3 hb3
           rw [← hbn] at hx4 ⊢
           have HX3 := Lib.hid hx4; have HO3 := Lib.hid ho3; have HB3 := Lib.hid hb3
           clear hW3 hx3 hx4 ho3 hb3 hbn HX2))
      all_goals (have k1 : W3.cell? ⟨p, 1, none⟩ = some (.pointer (some ⟨d, 0, none⟩)) := (blkD H1.out (by decide) HB3.out).cell (k := 1) rfl; have k2 := HX3.out.cell; have l1 := (blkD H1.out (by decide) HB3.out).lt; have l2 := HX3.out.lt)
      all_goals (have hB3 := WlO.bg (m := m) (show WlX base W3 d m first A xs s from ⟨HO3.out, HX.out.2⟩) (by omega) HFB.out.2 (tab_butD HT.out HB3.out hb) hb; rw [← HNA.out] at hB3; have HBG := Lib.hid hB3; clear hB3)
      all_goals (have hs3 := HB3.out.size)
      all_goals (go_wp2_with fail)
      all_goals (go_region_law (go_simp; go_at_call 37; first
        | (refine (begin_any _ l _ (HBG.out.below (grown_below (drew_grown _))) (fun X hX => HS.out X (butD_tr (butD_tr HB3.out (But.of_below (grown_below (drew_grown _)))) hX)) (by omega) HSZ.out).mono ?_; rintro e w4 ⟨N2, c', s', old', rfl, hW4, hG4, hD4, hc4, hI4, hbo4, hb4, -⟩; simp only [pt]; have HW4 := Lib.hid hW4; have HG4 := Lib.hid hG4; have HD4 := Lib.hid hD4; have HI4 := Lib.hid hI4; have HBO4 := Lib.hid hbo4; have HC4 := Lib.hid hc4; have HB34 := Lib.hid (butD_tr (But.of_below (grown_below (drew_grown W3))) hb4); clear hW4 hG4 hD4 hc4 hI4 hbo4 hb4)
        | (have hgw := (World.grownBy_alloc W3 (.cells #[.pointer none, .int .i64 0, .pointer none] 59) none).trans (drew_grown _); refine (begin_any _ l _ (HBG.out.below (grown_below hgw)) (fun X hX => HS.out X (butD_tr (butD_tr HB3.out (But.of_below (grown_below hgw))) hX)) (by omega) HSZ.out).mono ?_; rintro e w4 ⟨N2, c', s', old', rfl, hW4, hG4, hD4, hc4, hI4, hbo4, hb4, -⟩; simp only [pt]
           have hbx : Blk (W3.alloc (.cells #[.pointer none, .int .i64 0, .pointer none] 59)).drew W3.heap.size 59 #[.pointer none, .int .i64 0, .pointer none] := Blk.kept (World.alloc_heap_new W3 _) (drew_grown _) (fun e => nomatch e)
           have hbx2 := blkD hbx (by decide) hb4; have g0 := hbx2.cell (k := 0) rfl; have g1 := hbx2.cell (k := 1) rfl; have g2 := hbx2.cell (k := 2) rfl; have f0 := hbx2.frozen 0; have f1 := hbx2.frozen 1; have f2 := hbx2.frozen 2; have HX4 := Lib.hid hbx2
           have HW4 := Lib.hid hW4; have HG4 := Lib.hid hG4; have HD4 := Lib.hid hD4; have HI4 := Lib.hid hI4; have HBO4 := Lib.hid hbo4; have HC4 := Lib.hid hc4; have HB34 := Lib.hid (butD_tr (But.of_below (grown_below hgw)) hb4); clear hW4 hG4 hD4 hc4 hI4 hbo4 hb4 hbx hbx2 hgw)))
      all_goals (try clear k1 k2 l1 l2)
      all_goals (first
        | (obtain ⟨W5, hW5⟩ : ∃ W5, w4.alloc (.cells #[.pointer (some ⟨d, 0, none⟩), .int .i64 (first + (nA : Int)), .pointer (some ⟨N2, 0, none⟩)] 59) = W5 := ⟨_, rfl⟩
           rw [hW5]
           have hgA := World.grownBy_alloc w4 (.cells #[.pointer (some ⟨d, 0, none⟩), .int .i64 (first + (nA : Int)), .pointer (some ⟨N2, 0, none⟩)] 59) none
           have hx5 := World.alloc_heap_new w4 (.cells #[.pointer (some ⟨d, 0, none⟩), .int .i64 (first + (nA : Int)), .pointer (some ⟨N2, 0, none⟩)] 59)
           obtain ⟨bl, hbl⟩ : ∃ bl, bl = w4.heap.size := ⟨_, rfl⟩
           rw [← hbl] at hx5 ⊢
           rw [hW5] at hgA hx5
           have HL5 : Hid (Blk W5 bl 59 #[.pointer (some ⟨d, 0, none⟩), .int .i64 (first + (nA : Int)), .pointer (some ⟨N2, 0, none⟩)]) := Lib.hid hx5
           have HO5 := Lib.hid (HD4.out.new hgA); have HN5 := Lib.hid (HW4.out.kept hgA (fun e => nomatch e)); have HB35 := Lib.hid (butD_tr HB34.out (But.of_below (grown_below hgA)))
           clear hW5 hgA hx5 hbl)
        | (have hnN : N2 ≠ W3.heap.size := fun e => by have h1 := HW4.out; rw [e] at h1; exact absurd (Option.some.inj (h1.symm.trans HX4.out)) (by simp)
           have q0 := setCell_blk HX4.out 0 (.pointer (some ⟨d, 0, none⟩))
           have q1 := setCell_blk q0 1 (.int .i64 (first + (nA : Int)))
           have q2 := setCell_blk q1 2 (.pointer (some ⟨N2, 0, none⟩))
           have n1 := HW4.out.kept (grown_setCell _ W3.heap.size 0 (.pointer (some ⟨d, 0, none⟩))) (fun e => hnN (Option.some.inj e).symm)
           have n2 := n1.kept (grown_setCell _ W3.heap.size 1 (.int .i64 (first + (nA : Int)))) (fun e => hnN (Option.some.inj e).symm)
           have n3 := n2.kept (grown_setCell _ W3.heap.size 2 (.pointer (some ⟨N2, 0, none⟩))) (fun e => hnN (Option.some.inj e).symm)
           have o1 := HD4.out.at HX4.out (by decide) (grown_setCell _ W3.heap.size 0 (.pointer (some ⟨d, 0, none⟩)))
           have o2 := o1.at q0 (by decide) (grown_setCell _ W3.heap.size 1 (.int .i64 (first + (nA : Int))))
           have o3 := o2.at q1 (by decide) (grown_setCell _ W3.heap.size 2 (.pointer (some ⟨N2, 0, none⟩)))
           have b3 := ((HB34.out.setCell (p := ⟨W3.heap.size, 0, none⟩) (fun hp => absurd hp (by simp)) (.pointer (some ⟨d, 0, none⟩))).setCell (p := ⟨W3.heap.size, 1, none⟩) (fun hp => absurd hp (by simp)) (.int .i64 (first + (nA : Int)))).setCell (p := ⟨W3.heap.size, 2, none⟩) (fun hp => absurd hp (by simp)) (.pointer (some ⟨N2, 0, none⟩))
           obtain ⟨W5, hW5⟩ : ∃ W5, (((w4.setCell ⟨W3.heap.size, 0, none⟩ (.pointer (some ⟨d, 0, none⟩))).setCell ⟨W3.heap.size, 1, none⟩ (.int .i64 (first + (nA : Int)))).setCell ⟨W3.heap.size, 2, none⟩ (.pointer (some ⟨N2, 0, none⟩))) = W5 := ⟨_, rfl⟩
           rw [hW5]
           obtain ⟨bl, hbl⟩ : ∃ bl, bl = W3.heap.size := ⟨_, rfl⟩
           rw [hW5] at q2 n3 o3 b3
           rw [← hbl] at q2 ⊢
           have HL5 : Hid (Blk W5 bl 59 #[.pointer (some ⟨d, 0, none⟩), .int .i64 (first + (nA : Int)), .pointer (some ⟨N2, 0, none⟩)]) := Lib.hid q2
           have HO5 := Lib.hid o3; have HN5 := Lib.hid n3; have HB35 := Lib.hid b3
           clear hW5 hbl q0 q1 q2 n1 n2 n3 o1 o2 o3 b3 hnN HX4 g0 g1 g2 f0 f1 f2))
      all_goals (have HX5 := Lib.hid (boxD HX3.out (by decide) HB35.out); have HP5 := Lib.hid (blkD (blkD H1.out (by decide) HB3.out) (by decide) HB35.out); have HB5 := Lib.hid (butD_tr HB3.out HB35.out))
      all_goals (have c0 := HL5.out.cell (k := 0) rfl; have c1 := HL5.out.cell (k := 1) rfl; have c2 := HL5.out.cell (k := 2) rfl; have k1 : W5.cell? ⟨p, 1, none⟩ = some (.pointer (some ⟨d, 0, none⟩)) := HP5.out.cell (k := 1) rfl; have k2 := HP5.out.cell (k := 2) rfl; have k3 : W5.cell? ⟨p, 3, none⟩ = some (.pointer (some ⟨N, 0, none⟩)) := HP5.out.cell (k := 3) rfl; have f1 := HP5.out.frozen 1; have f2 := HP5.out.frozen 2; have f3 := HP5.out.frozen 3)
      all_goals (go_wp2_with fail)
      all_goals (clear c0 c1 c2 k1 k2 k3 f1 f2 f3)
      all_goals (have q0 := setCell_blk HP5.out 1 (.pointer (some ⟨d, 0, none⟩)); have q1 := setCell_blk q0 2 (.int .i64 (first + (nA : Int))); have q2 := setCell_blk q1 3 (.pointer (some ⟨N2, 0, none⟩)))
      all_goals (have hnN : N2 ≠ p := fun e => by have h1 := HN5.out; rw [e] at h1; exact absurd (Option.some.inj (h1.symm.trans HP5.out)) (by simp))
      all_goals (have hnB : bn ≠ p := fun e => by have h1 := Boxed.blkW HX5.out; rw [e] at h1; exact absurd (Option.some.inj (h1.symm.trans HP5.out)) (by simp))
      all_goals (have n1 := HN5.out.kept (grown_setCell _ p 1 (.pointer (some ⟨d, 0, none⟩))) (fun e => hnN (Option.some.inj e).symm); have n2 := n1.kept (grown_setCell _ p 2 (.int .i64 (first + (nA : Int)))) (fun e => hnN (Option.some.inj e).symm); have n3 := n2.kept (grown_setCell _ p 3 (.pointer (some ⟨N2, 0, none⟩))) (fun e => hnN (Option.some.inj e).symm))
      all_goals (have x1 := (Boxed.blkW HX5.out).kept (grown_setCell _ p 1 (.pointer (some ⟨d, 0, none⟩))) (fun e => hnB (Option.some.inj e).symm); have x2 := x1.kept (grown_setCell _ p 2 (.int .i64 (first + (nA : Int)))) (fun e => hnB (Option.some.inj e).symm); have x3 := x2.kept (grown_setCell _ p 3 (.pointer (some ⟨N2, 0, none⟩))) (fun e => hnB (Option.some.inj e).symm))
      all_goals (have o1 := HO5.out.at HP5.out (by decide) (grown_setCell _ p 1 (.pointer (some ⟨d, 0, none⟩))); have o2 := o1.at q0 (by decide) (grown_setCell _ p 2 (.int .i64 (first + (nA : Int)))); have o3 := o2.at q1 (by decide) (grown_setCell _ p 3 (.pointer (some ⟨N2, 0, none⟩))))
      all_goals (have b4 := (((butP_of (p := p) HB5.out).setCell (p := ⟨p, 1, none⟩) (fun _ => .inr rfl) (.pointer (some ⟨d, 0, none⟩))).setCell (p := ⟨p, 2, none⟩) (fun _ => .inr rfl) (.int .i64 (first + (nA : Int)))).setCell (p := ⟨p, 3, none⟩) (fun _ => .inr rfl) (.pointer (some ⟨N2, 0, none⟩)))
      all_goals (obtain ⟨W6, hW6⟩ : ∃ W6, (((W5.setCell ⟨p, 1, none⟩ (.pointer (some ⟨d, 0, none⟩))).setCell ⟨p, 2, none⟩ (.int .i64 (first + (nA : Int)))).setCell ⟨p, 3, none⟩ (.pointer (some ⟨N2, 0, none⟩))) = W6 := ⟨_, rfl⟩)
      all_goals (rw [hW6] at q2 n3 x3 o3 b4 ⊢)
      all_goals (have HP6 := Lib.hid q2; have HN6 := Lib.hid n3; have HX6 := Lib.hid x3; have HO6 := Lib.hid o3; have HB6 := Lib.hid b4)
      all_goals (clear hW6 q0 q1 q2 n1 n2 n3 x1 x2 x3 o1 o2 o3 b4 hnN hnB)
      all_goals (refine (dropS_any bn (first + (nA : Int)) W6 HO6.out (by have := HC4.out; omega) (by rw [HG4.out.ps]; rfl) HX6.out).mono ?_; rintro e w7 ⟨rfl, hD7, hb7⟩; have HD7 := Lib.hid hD7; have HB7 := Lib.hid hb7; clear hD7 hb7)
      all_goals (go_wp2)
      all_goals (go_ret)
      all_goals (have hbo := HX.out.2.2.2; have hbe := HBO4.out; have h8 := H8.out)
      all_goals (exact ⟨rfl, ⟨first + (nA : Int), [], N2, blkD HP6.out (by decide) HB7.out, blkD HN6.out (by decide) HB7.out, wl_of HG4.out.drop HD7.out (HI4.out.drop HG4.out.ps _) (by show 0 ≤ s'.boots; omega) (by show s'.boots ≤ _; omega) (by omega) (by omega), by rw [txt_run, List.take_length]; rfl, by rw [List.drop_length]; rfl, Nat.le_refl _, Nat.le_refl _, by omega, h8.2⟩, butP_tr HB6.out HB7.out⟩)
theorem ptFiles (w : World) (h : PtO base w d m p L sure cp A) (hm : m ≤ 900) : Calls Tryd.prog 26 #[pt d 0] w fun e w' => ∃ (ys : List Int) (u : Value), e = .returned u ∧ w'.ownsRow w.heap.size 3 1 u ys.length (ys.flatMap (intE .i64)) ∧ ys.length = (((L.drop sure).map tT).foldl appA A).length ∧ PtO base w' d m p L sure cp A ∧ ButD base w w' := by
  obtain ⟨first, xs, N, h1, h2, ⟨s, hX⟩, h4, h5, h6⟩ := h
  subst h5
  have hrl := run_len ((L.drop sure).map tT) A
  have hxl := hX.2.2.2.2.2.1
  refine (tFiles w hX.1 (by omega)).mono ?_
  rintro e x ⟨ys, u, k1, k2, k3, k4, k5, k6⟩
  refine ⟨ys, u, k1, k2, ?_, ⟨first, _, N, blkD h1 (by decide) k6, blkD h2 (by decide) k6, ⟨s, k5, hX.2⟩, h4, rfl, h6⟩, k6⟩
  have hf := hX.2.1.logs.fil ⟨ys, k3, Nat.le_refl _, rfl⟩
  rw [List.filter_eq_self.2 (fun z hz => by
    have h9 := (k3.2 z).1 hz
    rw [hX.2.1.on z] at h9; unfold flW at h9
    by_cases hl : first ≤ z
    · exact decide_eq_true hl
    · rw [if_neg hl] at h9; cases h9)] at hf
  rw [hf, segN_len]
end
end Go.Proofs.YtfiplhnplmadmaaDoor

/- Package point: a small log is one file. Conditions: none. -/
namespace Go.Proofs.YtfiplhnplmadmaaDoor
open Go.RowKit Go.PlainAid
set_option linter.unusedVariables false
theorem full_no {T : List ByteArray} (h : (catF T).size < 256) : fullS ⟨T, ⟨#[]⟩⟩ = false := by
  unfold fullS WSeg.b
  rw [bapp_nil, decide_eq_false (by show ¬ 256 ≤ (catF T).size; omega)]; rfl
theorem app_one {T : List ByteArray} (h : (catF T).size < 256) (x : ByteArray) : appA [⟨T, ⟨#[]⟩⟩] x = [⟨T ++ [x], ⟨#[]⟩⟩] := by
  have ha : atA [⟨T, ⟨#[]⟩⟩] = 0 := by unfold atA; simp [full_no h]
  unfold appA putA; rw [ha]; rfl
theorem fr_sz {x : ByteArray} (h : x.size ≤ 20) : (frameB x).size ≤ 60 := by
  have h1 := numB_size x
  have h2 : (frameB x).size = (numB x).size + 4 + x.size := by unfold frameB; rw [bsz_app, bsz_app]; rfl
  omega
theorem aw13_len (a b c d : ByteArray) (ha : a.size ≤ 20) (hb : b.size ≤ 20) (hc : c.size ≤ 20) : ([d].foldl appA ([a, b, c].foldl appA [])).length = 1 := by
  have h1 := fr_sz ha; have h2 := fr_sz hb; have h3 := fr_sz hc
  have s1 : (catF [a]).size < 256 := by rw [show catF [a] = catF [] ++ frameB a from by rw [← catF_snoc]; rfl, bsz_app]; show 0 + _ < 256; omega
  have s2 : (catF [a, b]).size < 256 := by
    rw [show catF [a, b] = (catF [] ++ frameB a) ++ frameB b from by rw [← catF_snoc, ← catF_snoc]; rfl, bsz_app, bsz_app]; show 0 + _ + _ < 256; omega
  have s3 : (catF [a, b, c]).size < 256 := by
    rw [show catF [a, b, c] = ((catF [] ++ frameB a) ++ frameB b) ++ frameB c from by rw [← catF_snoc, ← catF_snoc, ← catF_snoc]; rfl, bsz_app, bsz_app, bsz_app]; show 0 + _ + _ + _ < 256; omega
  have e0 : appA [] a = [⟨[a], ⟨#[]⟩⟩] := rfl
  rw [List.foldl_cons, List.foldl_nil, List.foldl_cons, List.foldl_cons, List.foldl_cons, List.foldl_nil, e0, app_one s1, show [a] ++ [b] = [a, b] from rfl, app_one s2, show [a, b] ++ [c] = [a, b, c] from rfl, app_one s3]
  rfl
end Go.Proofs.YtfiplhnplmadmaaDoor

/- catenalaw13: acts, Same, awake. Conditions: a laid table. -/
namespace Go.Proofs.YtfiplhnplmadmaaDoor
open Go.RowKit Go.PlainAid
set_option linter.unusedVariables false
set_option linter.unusedSimpArgs false


/-- A call of stage 13. -/
structure PActT where
  k : Int
  s : ByteArray
  lv : Value
  l : List ByteArray
  n : Int
instance : Inhabited PActT := ⟨⟨0, ⟨#[]⟩, .slice none 0 0, [], 0⟩⟩
def pactE (a : PActT) : List Value := [.int .i64 a.k, .string a.s, a.lv, .int .i64 a.n]
theorem pactE_len (a : PActT) : (pactE a).length = 4 := rfl
def lenAt (l : List PActT) (i : Nat) : Nat := ((l[i]?).map (·.l.length)).getD 0
theorem lenAt_eq {l : List PActT} {i : Nat} {y : PActT} (h : l[i]? = some y) : lenAt l i = y.l.length := by unfold lenAt; rw [h]; rfl
structure PActS (w : World) (a : PActT) : Prop where
  sl : SliceOf strE 1 w a.lv a.l

set_option maxRecDepth 100000 in
theorem sameStr13_any (u : Value) (v : Value) (l : List ByteArray) (w : World) (hu : SliceOf strE 1 w u l) (hv : SliceOf strE 1 w v l) :
    Calls Tryd.prog 15 #[u, v] w fun e w' => e = .returned (.bool true) ∧ Below w.heap.size w w' := by
 have hB0 := Below.refl w.heap.size w
 have hl_hu := sl_len hu
 have hl_hv := sl_len hv
 refine co_enter (n := 32) Tryd.func15 rfl rfl rfl [(0, u), (1, v)] rfl (fun a h0 => ?_)
 refine co_seq ?_
 refine co_reg ?_
 refine pk0 (v := .bool false) h0 rfl fun a1 h1 => ?_; clear h0
 refine pl_nil ?_
 refine co_then ?_
 refine co_seq ?_
 refine co_seq ?_
 refine co_reg ?_
 refine pk0 (v := u) h1 rfl fun a2 h2 => ?_; clear h1
 refine pk (v := .int .i64 ((l.length : Nat) : Int)) h2 rfl (rn_len rfl rfl Tryd.underlying28 hu) fun a3 h3 => ?_; clear h2
 refine pk0 (v := v) h3 rfl fun a4 h4 => ?_; clear h3
 refine pk (v := .int .i64 ((l.length : Nat) : Int)) h4 rfl (rn_len rfl rfl Tryd.underlying28 hv) fun a5 h5 => ?_; clear h4
 refine pk0 (v := .bool (((l.length : Nat) : Int) != ((l.length : Nat) : Int))) h5 rfl fun a6 h6 => ?_; clear h5
 refine pl_nil ?_
 refine co_then ?_
 have hc7 : (((l.length : Nat) : Int) != ((l.length : Nat) : Int)) = false := by first | (simp; done) | (simp; omega) | exact beq_false_of_ne (by omega) | exact beq_iff_eq.2 (by omega)
 rw [hc7] at h6; clear hc7
 refine co_false h6 rfl ?_
 refine wp_skip ?_
 refine co_then ?_
 refine co_seq ?_
 refine co_seq ?_
 refine co_reg ?_
 refine pk0 (v := .int .i64 0) h6 rfl fun a8 h8 => ?_; clear h6
 refine pl_nil ?_
 refine co_then ?_
 refine wp_block ?_
 have h9 : Slots 32 [(0, u), (1, v), (5, .int .i64 0)] _ := h8.sub ⟨rfl, rfl, rfl, trivial⟩; clear h8
 refine co_loop (fun mm a x => ∃ (i : Nat), Slots 32 [(0, u), (1, v), (5, .int .i64 ((i : Nat) : Int))] a ∧ mm = l.length - i ∧ (i ≤ l.length) ∧ Below w.heap.size w x) (l.length - 0) ?_ ?_
 · exact ⟨0, h9.sub ⟨rfl, rfl, (slot_eq rfl (congrArg (Value.int .i64) (by first | rfl | omega))), trivial⟩, rfl, by omega, hB0⟩
 · rintro k10 a11 w12 ⟨i, h11, rfl, hi13, hB14⟩
   have hz15 := hB14.size
   refine co_seq ?_
   refine co_seq ?_
   refine co_reg ?_
   refine pk0 (v := .int .i64 ((i : Nat) : Int)) h11 rfl fun a16 h16 => ?_; clear h11
   refine pk0 (v := u) h16 rfl fun a17 h17 => ?_; clear h16
   refine pk (v := .int .i64 ((l.length : Nat) : Int)) h17 rfl (rn_len rfl rfl Tryd.underlying28 (hu.below hB14)) fun a18 h18 => ?_; clear h17
   refine pk0 (v := .bool (decide (((i : Nat) : Int) < ((l.length : Nat) : Int)))) h18 rfl fun a19 h19 => ?_; clear h18
   refine pk0 (v := .bool (decide (((i : Nat) : Int) < ((l.length : Nat) : Int)))) h19 rfl fun a20 h20 => ?_; clear h19
   cases hc21 : (decide (((i : Nat) : Int) < ((l.length : Nat) : Int)))
   ·
    rw [hc21] at h20
    have hp22 : ¬ (((i : Nat) : Int) < ((l.length : Nat) : Int)) := of_decide_eq_false hc21
    clear hc21
    refine psk h20 rfl fun a23 h23 => ?_; clear h20
    refine psk h23 rfl fun a24 h24 => ?_; clear h23
    refine psk h24 rfl fun a25 h25 => ?_; clear h24
    refine psk h25 rfl fun a26 h26 => ?_; clear h25
    refine pk0 (v := .bool false) h26 rfl fun a27 h27 => ?_; clear h26
    refine pl_nil ?_
    refine co_then ?_
    refine co_false h27 rfl ?_
    refine wp_exit ?_
    refine co_thenX ?_
    refine co_thenX ?_
    refine co_blockX ?_
    refine co_then ?_
    refine co_seq ?_
    refine co_reg ?_
    refine pk0 (v := .bool true) h27 rfl fun a28 h28 => ?_; clear h27
    refine pl_nil ?_
    refine co_then ?_
    refine wp_ret ?_
    refine co_ret1 h28 rfl rfl ?_
    exact ⟨rfl, hB14⟩
   ·
    rw [hc21] at h20
    have hp29 : ((i : Nat) : Int) < ((l.length : Nat) : Int) := of_decide_eq_true hc21
    clear hc21
    refine pk0 (v := .int .i64 ((i : Nat) : Int)) h20 rfl fun a30 h30 => ?_; clear h20
    refine pk0 (v := v) h30 rfl fun a31 h31 => ?_; clear h30
    refine pk (v := .int .i64 ((l.length : Nat) : Int)) h31 rfl (rn_len rfl rfl Tryd.underlying28 (hv.below hB14)) fun a32 h32 => ?_; clear h31
    refine pk0 (v := .bool (decide (((i : Nat) : Int) < ((l.length : Nat) : Int)))) h32 rfl fun a33 h33 => ?_; clear h32
    refine pk0 (v := .bool (decide (((i : Nat) : Int) < ((l.length : Nat) : Int)))) h33 rfl fun a34 h34 => ?_; clear h33
    refine pl_nil ?_
    refine co_then ?_
    have hc35 : (decide (((i : Nat) : Int) < ((l.length : Nat) : Int))) = true := decide_eq_true (by omega)
    rw [hc35] at h34; clear hc35
    refine co_true h34 rfl ?_
    refine wp_skip ?_
    refine co_then ?_
    refine co_seq ?_
    refine wp_block ?_
    refine co_seq ?_
    refine dr_eq (by kernel_rfl) (fun w36 hg37 => ?_)
    have hz38 := hg37.size
    refine dk0 0 (v := u) h34 rfl rfl rfl fun a39 h39 => ?_; clear h34
    refine dk0 1 (v := .int .i64 ((i : Nat) : Int)) h39 rfl rfl rfl fun a40 h40 => ?_; clear h39
    have hB42 := hb_new hB14 hg37
    obtain ⟨y41, hy41⟩ : ∃ z, l[i]? = some z := ⟨_, List.getElem?_eq_getElem (by first | omega | (simp; done) | (simp; omega))⟩
    refine dk 2 (v := pt (blkOf u) (offOf u + i * 1)) h40 rfl rfl rfl (fun x hx => by subst hx; exact (rn_index rfl rfl rfl Tryd.underlying28 Tryd.sizeOf9 (hu.below hB42) (by omega) (by first | omega | (simp; done) | (simp; omega)))) fun a43 h43 => ?_; clear h40
    refine dk 3 (v := .string y41) h43 rfl rfl rfl (fun x hx => by subst hx; exact (rn_load1 rfl rfl Tryd.isAgg9 ((sl_at (hu.below hB42) hy41) 0 _ rfl))) fun a44 h44 => ?_; clear h43
    refine dk0 4 (v := v) h44 rfl rfl rfl fun a45 h45 => ?_; clear h44
    refine dk0 5 (v := .int .i64 ((i : Nat) : Int)) h45 rfl rfl rfl fun a46 h46 => ?_; clear h45
    refine dk 6 (v := pt (blkOf v) (offOf v + i * 1)) h46 rfl rfl rfl (fun x hx => by subst hx; exact (rn_index rfl rfl rfl Tryd.underlying28 Tryd.sizeOf9 (hv.below hB42) (by omega) (by first | omega | (simp; done) | (simp; omega)))) fun a47 h47 => ?_; clear h46
    refine dk 7 (v := .string y41) h47 rfl rfl rfl (fun x hx => by subst hx; exact (rn_load1 rfl rfl Tryd.isAgg9 ((sl_at (hv.below hB42) hy41) 0 _ rfl))) fun a48 h48 => ?_; clear h47
    refine dk0 8 (v := .bool (!(y41.toList == y41.toList))) h48 rfl rfl rfl fun a49 h49 => ?_; clear h48
    refine dr_done (by kernel_rfl) ?_
    refine co_then ?_
    have hc50 : (!(y41.toList == y41.toList)) = false := by simp
    rw [hc50] at h49; clear hc50
    refine co_false h49 rfl ?_
    refine wp_skip ?_
    refine co_blockN ?_
    refine co_then ?_
    refine co_reg ?_
    refine pk0 (v := .int .i64 ((i : Nat) : Int)) h49 rfl fun a51 h51 => ?_; clear h49
    refine pk (v := .int .i64 ((i + 1 : Nat) : Int)) h51 rfl (rn_arith' rfl rfl rfl rfl rfl rfl (IntWalk.i64_in _ (by omega)) (by omega)) fun a52 h52 => ?_; clear h51
    refine pk0 (v := .int .i64 ((i + 1 : Nat) : Int)) h52 rfl fun a53 h53 => ?_; clear h52
    refine pl_nil ?_
    refine co_then ?_
    refine ⟨(l.length - (i + 1)), by omega, ?_⟩
    exact ⟨i + 1, h53.sub ⟨rfl, rfl, rfl, trivial⟩, rfl, by omega, hB42⟩
set_option maxRecDepth 100000 in
theorem short13_some (v : Value) (l : List PActT) (w : World) (hs : SliceOf pactE 4 w v l) (hok : ∀ z ∈ l, PActS w z) :
    Calls Tryd.prog 18 #[v] w fun e w' => ∃ (b : Bool), e = .returned (.bool b) ∧ Below w.heap.size w w' := by
 have hB0 := Below.refl w.heap.size w
 have hl_hs := sl_len hs
 refine co_enter (n := 51) Tryd.func18 rfl rfl rfl [(0, v)] rfl (fun a h0 => ?_)
 refine co_seq ?_
 refine co_reg ?_
 refine pk0 (v := .bool false) h0 rfl fun a1 h1 => ?_; clear h0
 refine pl_nil ?_
 refine co_then ?_
 refine co_seq ?_
 refine co_seq ?_
 refine co_reg ?_
 refine pk0 (v := .int .i64 0) h1 rfl fun a2 h2 => ?_; clear h1
 refine pl_nil ?_
 refine co_then ?_
 refine wp_block ?_
 have h3 : Slots 51 [(0, v), (3, .int .i64 0)] _ := h2.sub ⟨rfl, rfl, trivial⟩; clear h2
 refine co_loop (fun mm a x => ∃ (i : Nat), Slots 51 [(0, v), (3, .int .i64 ((i : Nat) : Int))] a ∧ mm = l.length - i ∧ (i ≤ l.length) ∧ Below w.heap.size w x) (l.length - 0) ?_ ?_
 · exact ⟨0, h3.sub ⟨rfl, (slot_eq rfl (congrArg (Value.int .i64) (by first | rfl | omega))), trivial⟩, rfl, by omega, hB0⟩
 · rintro k4 a5 w6 ⟨i, h5, rfl, hi7, hB8⟩
   have hz9 := hB8.size
   refine co_seq ?_
   refine co_seq ?_
   refine co_reg ?_
   refine pk0 (v := .int .i64 ((i : Nat) : Int)) h5 rfl fun a10 h10 => ?_; clear h5
   refine pk0 (v := v) h10 rfl fun a11 h11 => ?_; clear h10
   refine pk (v := .int .i64 ((l.length : Nat) : Int)) h11 rfl (rn_len rfl rfl Tryd.underlying43 (hs.below hB8)) fun a12 h12 => ?_; clear h11
   refine pk0 (v := .bool (decide (((i : Nat) : Int) < ((l.length : Nat) : Int)))) h12 rfl fun a13 h13 => ?_; clear h12
   refine pk0 (v := .bool (decide (((i : Nat) : Int) < ((l.length : Nat) : Int)))) h13 rfl fun a14 h14 => ?_; clear h13
   cases hc15 : (decide (((i : Nat) : Int) < ((l.length : Nat) : Int)))
   ·
    rw [hc15] at h14
    have hp16 : ¬ (((i : Nat) : Int) < ((l.length : Nat) : Int)) := of_decide_eq_false hc15
    clear hc15
    refine psk h14 rfl fun a17 h17 => ?_; clear h14
    refine psk h17 rfl fun a18 h18 => ?_; clear h17
    refine pk0 (v := .bool false) h18 rfl fun a19 h19 => ?_; clear h18
    refine pl_nil ?_
    refine co_then ?_
    refine co_false h19 rfl ?_
    refine wp_exit ?_
    refine co_thenX ?_
    refine co_thenX ?_
    refine co_blockX ?_
    refine co_then ?_
    refine co_seq ?_
    refine co_reg ?_
    refine pk0 (v := .bool true) h19 rfl fun a20 h20 => ?_; clear h19
    refine pl_nil ?_
    refine co_then ?_
    refine wp_ret ?_
    refine co_ret1 h20 rfl rfl ?_
    exact ⟨_, rfl, hB8⟩
   ·
    rw [hc15] at h14
    have hp21 : ((i : Nat) : Int) < ((l.length : Nat) : Int) := of_decide_eq_true hc15
    clear hc15
    refine pk0 (v := .int .i64 ((i : Nat) : Int)) h14 rfl fun a22 h22 => ?_; clear h14
    refine pk0 (v := .bool (decide (((i : Nat) : Int) < 30))) h22 rfl fun a23 h23 => ?_; clear h22
    refine pk0 (v := .bool (decide (((i : Nat) : Int) < 30))) h23 rfl fun a24 h24 => ?_; clear h23
    refine pl_nil ?_
    refine co_then ?_
    cases hc25 : (decide (((i : Nat) : Int) < 30))
    ·
     rw [hc25] at h24
     have hp26 : ¬ (((i : Nat) : Int) < 30) := of_decide_eq_false hc25
     clear hc25
     refine co_false h24 rfl ?_
     refine wp_exit ?_
     refine co_thenX ?_
     refine co_thenX ?_
     refine co_blockX ?_
     refine co_then ?_
     refine co_seq ?_
     refine co_reg ?_
     refine pk0 (v := .bool true) h24 rfl fun a27 h27 => ?_; clear h24
     refine pl_nil ?_
     refine co_then ?_
     refine wp_ret ?_
     refine co_ret1 h27 rfl rfl ?_
     exact ⟨_, rfl, hB8⟩
    ·
     rw [hc25] at h24
     have hp28 : ((i : Nat) : Int) < 30 := of_decide_eq_true hc25
     clear hc25
     refine co_true h24 rfl ?_
     refine wp_skip ?_
     refine co_then ?_
     refine co_seq ?_
     refine wp_block ?_
     refine co_seq ?_
     refine co_seq ?_
     refine co_reg ?_
     refine pk0 (v := v) h24 rfl fun a29 h29 => ?_; clear h24
     refine pk0 (v := .int .i64 ((i : Nat) : Int)) h29 rfl fun a30 h30 => ?_; clear h29
     obtain ⟨y31, hy31⟩ : ∃ z, l[i]? = some z := ⟨_, List.getElem?_eq_getElem (by first | omega | (simp; done) | (simp; omega))⟩
     have oky31 := hok _ (List.mem_of_getElem? hy31)
     have hlay31 := lenAt_eq hy31
     refine pk (v := pt (blkOf v) (offOf v + i * 4)) h30 rfl (rn_index rfl rfl rfl Tryd.underlying43 Tryd.sizeOf49 (hs.below hB8) (by omega) (by first | omega | (simp; done) | (simp; omega))) fun a32 h32 => ?_; clear h30
     refine pk0 (v := pt (blkOf v) (offOf v + i * 4 + 1)) h32 rfl fun a33 h33 => ?_; clear h32
     refine pk (v := .string y31.s) h33 rfl (rn_load1 rfl rfl Tryd.isAgg9 ((sl_at (hs.below hB8) hy31) 1 _ rfl)) fun a34 h34 => ?_; clear h33
     refine pk (v := .int .i64 ((y31.s.size : Nat) : Int)) h34 rfl (rn_lenStr rfl rfl Tryd.underlying9) fun a35 h35 => ?_; clear h34
     refine pk0 (v := .bool (decide (((y31.s.size : Nat) : Int) > 300))) h35 rfl fun a36 h36 => ?_; clear h35
     refine pk0 (v := .bool (decide (((y31.s.size : Nat) : Int) > 300))) h36 rfl fun a37 h37 => ?_; clear h36
     cases hc38 : (decide (((y31.s.size : Nat) : Int) > 300))
     ·
      rw [hc38] at h37
      have hp39 : ¬ (((y31.s.size : Nat) : Int) > 300) := of_decide_eq_false hc38
      clear hc38
      refine pk0 (v := v) h37 rfl fun a40 h40 => ?_; clear h37
      refine pk0 (v := .int .i64 ((i : Nat) : Int)) h40 rfl fun a41 h41 => ?_; clear h40
      refine pk (v := pt (blkOf v) (offOf v + i * 4)) h41 rfl (rn_index rfl rfl rfl Tryd.underlying43 Tryd.sizeOf49 (hs.below hB8) (by omega) (by first | omega | (simp; done) | (simp; omega))) fun a42 h42 => ?_; clear h41
      refine pk0 (v := pt (blkOf v) (offOf v + i * 4 + 2)) h42 rfl fun a43 h43 => ?_; clear h42
      refine pk (v := y31.lv) h43 rfl (rn_load1 rfl rfl Tryd.isAgg28 ((sl_at (hs.below hB8) hy31) 2 _ rfl)) fun a44 h44 => ?_; clear h43
      refine pk (v := .int .i64 ((y31.l.length : Nat) : Int)) h44 rfl (rn_len rfl rfl Tryd.underlying28 (oky31.sl.below hB8)) fun a45 h45 => ?_; clear h44
      refine pk0 (v := .bool (decide (((y31.l.length : Nat) : Int) > 10))) h45 rfl fun a46 h46 => ?_; clear h45
      refine pk0 (v := .bool (decide (((y31.l.length : Nat) : Int) > 10))) h46 rfl fun a47 h47 => ?_; clear h46
      refine pl_nil ?_
      refine co_then ?_
      cases hc48 : (decide (((y31.l.length : Nat) : Int) > 10))
      ·
       rw [hc48] at h47
       have hp49 : ¬ (((y31.l.length : Nat) : Int) > 10) := of_decide_eq_false hc48
       clear hc48
       refine co_false h47 rfl ?_
       refine wp_skip ?_
       refine co_then ?_
       refine co_seq ?_
       refine co_reg ?_
       refine pk0 (v := .int .i64 0) h47 rfl fun a50 h50 => ?_; clear h47
       refine pl_nil ?_
       refine co_then ?_
       refine wp_block ?_
       have h51 : Slots 51 [(0, v), (3, .int .i64 ((i : Nat) : Int)), (4, .int .i64 0)] _ := h50.sub ⟨rfl, rfl, rfl, trivial⟩; clear h50
       refine co_loop (fun mm a x => ∃ (j : Nat), Slots 51 [(0, v), (3, .int .i64 ((i : Nat) : Int)), (4, .int .i64 ((j : Nat) : Int))] a ∧ mm = lenAt l i - j ∧ (j ≤ lenAt l i) ∧ Below w.heap.size w x) (lenAt l i - 0) ?_ ?_
       · exact ⟨0, h51.sub ⟨rfl, rfl, (slot_eq rfl (congrArg (Value.int .i64) (by first | rfl | omega))), trivial⟩, rfl, by omega, hB8⟩
       · rintro k52 a53 w54 ⟨j, h53, rfl, hi55, hB56⟩
         have hz57 := hB56.size
         refine co_seq ?_
         refine co_seq ?_
         refine co_reg ?_
         refine pk0 (v := .int .i64 ((j : Nat) : Int)) h53 rfl fun a58 h58 => ?_; clear h53
         refine pk0 (v := v) h58 rfl fun a59 h59 => ?_; clear h58
         refine pk0 (v := .int .i64 ((i : Nat) : Int)) h59 rfl fun a60 h60 => ?_; clear h59
         refine pk (v := pt (blkOf v) (offOf v + i * 4)) h60 rfl (rn_index rfl rfl rfl Tryd.underlying43 Tryd.sizeOf49 (hs.below hB56) (by omega) (by first | omega | (simp; done) | (simp; omega))) fun a61 h61 => ?_; clear h60
         refine pk0 (v := pt (blkOf v) (offOf v + i * 4 + 2)) h61 rfl fun a62 h62 => ?_; clear h61
         refine pk (v := y31.lv) h62 rfl (rn_load1 rfl rfl Tryd.isAgg28 ((sl_at (hs.below hB56) hy31) 2 _ rfl)) fun a63 h63 => ?_; clear h62
         refine pk (v := .int .i64 ((y31.l.length : Nat) : Int)) h63 rfl (rn_len rfl rfl Tryd.underlying28 (oky31.sl.below hB56)) fun a64 h64 => ?_; clear h63
         refine pk0 (v := .bool (decide (((j : Nat) : Int) < ((y31.l.length : Nat) : Int)))) h64 rfl fun a65 h65 => ?_; clear h64
         refine pl_nil ?_
         refine co_then ?_
         cases hc66 : (decide (((j : Nat) : Int) < ((y31.l.length : Nat) : Int)))
         ·
          rw [hc66] at h65
          have hp67 : ¬ (((j : Nat) : Int) < ((y31.l.length : Nat) : Int)) := of_decide_eq_false hc66
          clear hc66
          refine co_false h65 rfl ?_
          refine wp_exit ?_
          refine co_thenX ?_
          refine co_thenX ?_
          refine co_blockX ?_
          refine co_blockN ?_
          refine co_then ?_
          refine co_reg ?_
          refine pk0 (v := .int .i64 ((i : Nat) : Int)) h65 rfl fun a68 h68 => ?_; clear h65
          refine pk (v := .int .i64 ((i + 1 : Nat) : Int)) h68 rfl (rn_arith' rfl rfl rfl rfl rfl rfl (IntWalk.i64_in _ (by omega)) (by omega)) fun a69 h69 => ?_; clear h68
          refine pk0 (v := .int .i64 ((i + 1 : Nat) : Int)) h69 rfl fun a70 h70 => ?_; clear h69
          refine pl_nil ?_
          refine co_then ?_
          refine ⟨(l.length - (i + 1)), by omega, ?_⟩
          exact ⟨i + 1, h70.sub ⟨rfl, rfl, trivial⟩, rfl, by omega, hB56⟩
         ·
          rw [hc66] at h65
          have hp71 : ((j : Nat) : Int) < ((y31.l.length : Nat) : Int) := of_decide_eq_true hc66
          clear hc66
          refine co_true h65 rfl ?_
          refine wp_skip ?_
          refine co_then ?_
          refine co_seq ?_
          refine wp_block ?_
          refine co_seq ?_
          refine co_reg ?_
          refine pk0 (v := v) h65 rfl fun a72 h72 => ?_; clear h65
          refine pk0 (v := .int .i64 ((i : Nat) : Int)) h72 rfl fun a73 h73 => ?_; clear h72
          refine pk (v := pt (blkOf v) (offOf v + i * 4)) h73 rfl (rn_index rfl rfl rfl Tryd.underlying43 Tryd.sizeOf49 (hs.below hB56) (by omega) (by first | omega | (simp; done) | (simp; omega))) fun a74 h74 => ?_; clear h73
          refine pk0 (v := pt (blkOf v) (offOf v + i * 4 + 2)) h74 rfl fun a75 h75 => ?_; clear h74
          refine pk (v := y31.lv) h75 rfl (rn_load1 rfl rfl Tryd.isAgg28 ((sl_at (hs.below hB56) hy31) 2 _ rfl)) fun a76 h76 => ?_; clear h75
          refine pk0 (v := .int .i64 ((j : Nat) : Int)) h76 rfl fun a77 h77 => ?_; clear h76
          obtain ⟨y78, hy78⟩ : ∃ z, y31.l[j]? = some z := ⟨_, List.getElem?_eq_getElem (by first | omega | (simp; done) | (simp; omega))⟩
          refine pk (v := pt (blkOf (y31.lv)) (offOf (y31.lv) + j * 1)) h77 rfl (rn_index rfl rfl rfl Tryd.underlying28 Tryd.sizeOf9 (oky31.sl.below hB56) (by omega) (by first | omega | (simp; done) | (simp; omega))) fun a79 h79 => ?_; clear h77
          refine pk (v := .string y78) h79 rfl (rn_load1 rfl rfl Tryd.isAgg9 ((sl_at (oky31.sl.below hB56) hy78) 0 _ rfl)) fun a80 h80 => ?_; clear h79
          refine pk (v := .int .i64 ((y78.size : Nat) : Int)) h80 rfl (rn_lenStr rfl rfl Tryd.underlying9) fun a81 h81 => ?_; clear h80
          refine pk0 (v := .bool (decide (((y78.size : Nat) : Int) > 300))) h81 rfl fun a82 h82 => ?_; clear h81
          refine pl_nil ?_
          refine co_then ?_
          cases hc83 : (decide (((y78.size : Nat) : Int) > 300))
          ·
           rw [hc83] at h82
           have hp84 : ¬ (((y78.size : Nat) : Int) > 300) := of_decide_eq_false hc83
           clear hc83
           refine co_false h82 rfl ?_
           refine wp_skip ?_
           refine co_blockN ?_
           refine co_then ?_
           refine co_reg ?_
           refine pk0 (v := .int .i64 ((j : Nat) : Int)) h82 rfl fun a85 h85 => ?_; clear h82
           refine pk (v := .int .i64 ((j + 1 : Nat) : Int)) h85 rfl (rn_arith' rfl rfl rfl rfl rfl rfl (IntWalk.i64_in _ (by omega)) (by omega)) fun a86 h86 => ?_; clear h85
           refine pk0 (v := .int .i64 ((j + 1 : Nat) : Int)) h86 rfl fun a87 h87 => ?_; clear h86
           refine pl_nil ?_
           refine co_then ?_
           refine ⟨(lenAt l i - (j + 1)), by omega, ?_⟩
           exact ⟨j + 1, h87.sub ⟨rfl, rfl, rfl, trivial⟩, rfl, by omega, hB56⟩
          ·
           rw [hc83] at h82
           have hp88 : ((y78.size : Nat) : Int) > 300 := of_decide_eq_true hc83
           clear hc83
           refine co_true h82 rfl ?_
           refine co_seq ?_
           refine co_reg ?_
           refine pk0 (v := .bool false) h82 rfl fun a89 h89 => ?_; clear h82
           refine pl_nil ?_
           refine co_then ?_
           refine wp_ret ?_
           refine co_blockR ?_
           refine co_thenR ?_
           refine co_thenR ?_
           refine co_blockR ?_
           refine co_blockR ?_
           refine co_thenR ?_
           refine co_thenR ?_
           refine co_blockR ?_
           refine co_thenR ?_
           refine co_ret1 h89 rfl rfl ?_
           exact ⟨_, rfl, hB56⟩
      ·
       rw [hc48] at h47
       have hp90 : ((y31.l.length : Nat) : Int) > 10 := of_decide_eq_true hc48
       clear hc48
       refine co_true h47 rfl ?_
       refine co_seq ?_
       refine co_reg ?_
       refine pk0 (v := .bool false) h47 rfl fun a91 h91 => ?_; clear h47
       refine pl_nil ?_
       refine co_then ?_
       refine wp_ret ?_
       refine co_thenR ?_
       refine co_blockR ?_
       refine co_thenR ?_
       refine co_thenR ?_
       refine co_blockR ?_
       refine co_thenR ?_
       refine co_ret1 h91 rfl rfl ?_
       exact ⟨_, rfl, hB8⟩
     ·
      rw [hc38] at h37
      have hp92 : ((y31.s.size : Nat) : Int) > 300 := of_decide_eq_true hc38
      clear hc38
      refine psk h37 rfl fun a93 h93 => ?_; clear h37
      refine psk h93 rfl fun a94 h94 => ?_; clear h93
      refine psk h94 rfl fun a95 h95 => ?_; clear h94
      refine psk h95 rfl fun a96 h96 => ?_; clear h95
      refine psk h96 rfl fun a97 h97 => ?_; clear h96
      refine psk h97 rfl fun a98 h98 => ?_; clear h97
      refine psk h98 rfl fun a99 h99 => ?_; clear h98
      refine pk0 (v := .bool true) h99 rfl fun a100 h100 => ?_; clear h99
      refine pl_nil ?_
      refine co_then ?_
      refine co_true h100 rfl ?_
      refine co_seq ?_
      refine co_reg ?_
      refine pk0 (v := .bool false) h100 rfl fun a101 h101 => ?_; clear h100
      refine pl_nil ?_
      refine co_then ?_
      refine wp_ret ?_
      refine co_thenR ?_
      refine co_blockR ?_
      refine co_thenR ?_
      refine co_thenR ?_
      refine co_blockR ?_
      refine co_thenR ?_
      refine co_ret1 h101 rfl rfl ?_
      exact ⟨_, rfl, hB8⟩
set_option maxRecDepth 100000 in
set_option maxHeartbeats 3200000 in
theorem awake13  (w : World) (ht : Tab w) :
    Calls Tryd.prog 19 #[] w fun e w' => e = .returned (.bool true) ∧ Below w.heap.size w w' := by
 have hB0 := Below.refl w.heap.size w
 refine co_enter (n := 46) Tryd.func19 rfl rfl rfl [] rfl (fun a h0 => ?_)
 refine co_seq ?_
 refine co_reg ?_
 refine pk0 (v := .bool false) h0 rfl fun a1 h1 => ?_; clear h0
 refine pl_nil ?_
 refine co_then ?_
 refine co_seq ?_
 refine co_reg ?_
 refine pw h1 rfl (op_call (args := #[]) (R := fun res xw => ∃ N, res = pt N 0 ∧ WlO w.heap.size xw N 0 1 [] [] ∧ Below w.heap.size w xw) rfl rfl rfl (by kernel_rfl) (by kernel_rfl) (Tryd.call10 _ _) (wlNew w.heap.size 1 w (by omega) (by omega)) (by rintro e x ⟨N, rfl, h1, h2⟩; exact ⟨_, rfl, N, rfl, h1, h2⟩)) ?_; clear h1
 rintro _ w3 a2 ⟨N6, rfl, hd4, hb7⟩ h2
 have hz8 := hb7.size
 refine pk0 (v := pt N6 0) h2 rfl fun a9 h9 => ?_; clear h2
 refine pl_nil ?_
 refine co_then ?_
 refine co_seq ?_
 refine co_reg ?_
 refine pk0 (v := pt N6 0) h9 rfl fun a10 h10 => ?_; clear h9
 have hB15 := hb_call hB0 hb7
 refine pw h10 rfl (op_call (args := #[pt N6 0]) (R := fun res xw => ∃ p : Nat, res = .tuple #[pt p 0, .int .i64 0] ∧ PtO w.heap.size xw N6 1 p ([] : List ByteArray) 0 0 ([hdP 0].foldl appA []) ∧ ButD w.heap.size w3 xw) rfl rfl rfl (by kernel_rfl) (by kernel_rfl) (Tryd.call20 _ _) (ptNew w3 hd4 (ht.below hB15) (tab_pos ht)) (by rintro e x ⟨p, rfl, h⟩; exact ⟨_, rfl, p, rfl, h⟩)) ?_; clear h10
 rintro _ w12 a11 ⟨p16, rfl, hd13, hx14⟩ h11
 have hz18 := hx14.size
 have hB17 := (hbD hB15 hx14)
 have hz19 := hB17.size
 have hln20 := PtO.len hd13
 refine pk0 (v := .tuple #[pt p16 0, .int .i64 0]) h11 rfl fun a21 h21 => ?_; clear h11
 refine pk0 (v := pt p16 0) h21 rfl fun a22 h22 => ?_; clear h21
 refine pk0 (v := .int .i64 0) h22 rfl fun a23 h23 => ?_; clear h22
 refine pk0 (v := pt p16 0) h23 rfl fun a24 h24 => ?_; clear h23
 refine pk0 (v := .int .i64 0) h24 rfl fun a25 h25 => ?_; clear h24
 refine pl_nil ?_
 refine co_then ?_
 refine co_seq ?_
 refine co_reg ?_
 refine pk0 (v := pt p16 0) h25 rfl fun a26 h26 => ?_; clear h25
 refine pw h26 rfl (op_call (args := #[pt p16 0, .string (⟨#[97]⟩)]) (R := fun res xw => res = .int .i64 0 ∧ PtO w.heap.size xw N6 2 p16 (([] : List ByteArray) ++ [(⟨#[97]⟩ : ByteArray)]) 0 0 ([hdP 0].foldl appA []) ∧ ButD w.heap.size w12 xw) rfl rfl rfl (by kernel_rfl) (by kernel_rfl) (Tryd.call21 _ _) (ptAppend w12 (⟨#[97]⟩ : ByteArray) hd13 (by omega) (ht.below hB17) (tab_pos ht) (by decide)) (by rintro e x ⟨rfl, h1, h2⟩; exact ⟨_, rfl, rfl, h1, h2⟩)) ?_; clear h26
 rintro _ w28 a27 ⟨rfl, hd29, hx30⟩ h27
 have hz32 := hx30.size
 have hB31 := (hbD hB17 hx30)
 have hz33 := hB31.size
 have hln34 := PtO.len hd29
 refine pk0 (v := .int .i64 0) h27 rfl fun a35 h35 => ?_; clear h27
 refine pl_nil ?_
 refine co_then ?_
 refine co_seq ?_
 refine co_reg ?_
 refine pk0 (v := pt p16 0) h35 rfl fun a36 h36 => ?_; clear h35
 refine pw h36 rfl (op_new (v := fun N => .slice (some ⟨N, 0, none⟩) 2 2) (T := 9) (cs := #[.string (⟨#[98]⟩), .string (⟨#[99]⟩)]) (by kernel_rfl) (by kernel_rfl) (by kernel_rfl)) ?_; clear h36
 rintro _ w38 a37 ⟨N39, rfl, hN42, hz43, hk41, hg40⟩ h37
 have hz44 := hg40.size
 try dsimp only at h37
 have hB49 := hb_new hB31 hg40
 have hr50 := row_of_cells (enc := strE) (sz := 1) ([⟨#[98]⟩, ⟨#[99]⟩] : List ByteArray) hk41 (Nat.le_refl _) rfl rfl (by unfold maxLen; simp)
 have hl51 : ([⟨#[98]⟩, ⟨#[99]⟩] : List ByteArray).length = 2 := rfl
 have hd52 := hd29.new hg40
 refine pw h37 rfl (op_call (args := #[pt p16 0, .slice (some ⟨N39, 0, none⟩) 2 2]) (R := fun res xw => res = .int .i64 0 ∧ PtO w.heap.size xw N6 (2 + ([⟨#[98]⟩, ⟨#[99]⟩] : List ByteArray).length + 1) p16 ([⟨#[98]⟩, ⟨#[99]⟩] : List ByteArray) (([⟨#[98]⟩, ⟨#[99]⟩] : List ByteArray).length) (([⟨#[98]⟩, ⟨#[99]⟩] : List ByteArray).length) ((hdP ([⟨#[98]⟩, ⟨#[99]⟩] : List ByteArray).length :: ([⟨#[98]⟩, ⟨#[99]⟩] : List ByteArray).map tT).foldl appA []) ∧ ButP w.heap.size p16 w38 xw) rfl rfl rfl (by kernel_rfl) (by kernel_rfl) (Tryd.call25 _ _) (ptSave (.slice (some ⟨N39, 0, none⟩) 2 2) ([⟨#[98]⟩, ⟨#[99]⟩] : List ByteArray) w38 hd52 (fun X hX => SliceOf.own (rowD hr50 (by unfold offD; decide) hX) (fun _ _ => rfl)) (by omega) (by intro z hz; simp at hz; rcases hz with rfl | rfl <;> decide) (ht.below hB49) (tab_pos ht)) (by rintro e x ⟨rfl, h1, h2⟩; exact ⟨_, rfl, rfl, h1, h2⟩)) ?_; clear h37
 rintro _ w46 a45 ⟨rfl, hd47, hx48⟩ h45
 obtain ⟨_, hbk54⟩ := PtO.blk hd52
 have hz55 := hx48.size
 have hB53 := (hbP hB49 hx48 (PtO.lo hd52))
 have hz56 := hB53.size
 have hln57 := PtO.len hd47
 refine pk0 (v := .int .i64 0) h45 rfl fun a58 h58 => ?_; clear h45
 refine pl_nil ?_
 refine co_then ?_
 refine co_seq ?_
 refine co_reg ?_
 refine pk0 (v := pt p16 0) h58 rfl fun a59 h59 => ?_; clear h58
 refine pw h59 rfl (op_call (args := #[pt p16 0, .string (⟨#[100]⟩)]) (R := fun res xw => res = .int .i64 0 ∧ PtO w.heap.size xw N6 ((2 + ([⟨#[98]⟩, ⟨#[99]⟩] : List ByteArray).length + 1) + 1) p16 (([⟨#[98]⟩, ⟨#[99]⟩] : List ByteArray) ++ [(⟨#[100]⟩ : ByteArray)]) (([⟨#[98]⟩, ⟨#[99]⟩] : List ByteArray).length) (([⟨#[98]⟩, ⟨#[99]⟩] : List ByteArray).length) ((hdP ([⟨#[98]⟩, ⟨#[99]⟩] : List ByteArray).length :: ([⟨#[98]⟩, ⟨#[99]⟩] : List ByteArray).map tT).foldl appA []) ∧ ButD w.heap.size w46 xw) rfl rfl rfl (by kernel_rfl) (by kernel_rfl) (Tryd.call21 _ _) (ptAppend w46 (⟨#[100]⟩ : ByteArray) hd47 (by omega) (ht.below hB53) (tab_pos ht) (by decide)) (by rintro e x ⟨rfl, h1, h2⟩; exact ⟨_, rfl, rfl, h1, h2⟩)) ?_; clear h59
 rintro _ w61 a60 ⟨rfl, hd62, hx63⟩ h60
 have hz65 := hx63.size
 have hB64 := (hbD hB53 hx63)
 have hz66 := hB64.size
 have hln67 := PtO.len hd62
 refine pk0 (v := .int .i64 0) h60 rfl fun a68 h68 => ?_; clear h60
 refine pl_nil ?_
 refine co_then ?_
 refine co_seq ?_
 refine co_reg ?_
 refine pk0 (v := .int .i64 0) h68 rfl fun a69 h69 => ?_; clear h68
 refine pk0 (v := .bool ((0 : Int) == 0)) h69 rfl fun a70 h70 => ?_; clear h69
 refine pk0 (v := .bool ((0 : Int) == 0)) h70 rfl fun a71 h71 => ?_; clear h70
 have hc72 : ((0 : Int) == 0) = true := by first | (simp; done) | (simp; omega) | exact beq_false_of_ne (by omega) | exact beq_iff_eq.2 (by omega)
 rw [hc72] at h71; clear hc72
 refine pk0 (v := .int .i64 0) h71 rfl fun a73 h73 => ?_; clear h71
 refine pk0 (v := .bool ((0 : Int) == 0)) h73 rfl fun a74 h74 => ?_; clear h73
 refine pk0 (v := .bool ((0 : Int) == 0)) h74 rfl fun a75 h75 => ?_; clear h74
 refine pk0 (v := .bool ((0 : Int) == 0)) h75 rfl fun a76 h76 => ?_; clear h75
 have hc77 : ((0 : Int) == 0) = true := by first | (simp; done) | (simp; omega) | exact beq_false_of_ne (by omega) | exact beq_iff_eq.2 (by omega)
 rw [hc77] at h76; clear hc77
 refine pk0 (v := .int .i64 0) h76 rfl fun a78 h78 => ?_; clear h76
 refine pk0 (v := .bool ((0 : Int) == 0)) h78 rfl fun a79 h79 => ?_; clear h78
 refine pk0 (v := .bool ((0 : Int) == 0)) h79 rfl fun a80 h80 => ?_; clear h79
 refine pk0 (v := .bool ((0 : Int) == 0)) h80 rfl fun a81 h81 => ?_; clear h80
 have hc82 : ((0 : Int) == 0) = true := by first | (simp; done) | (simp; omega) | exact beq_false_of_ne (by omega) | exact beq_iff_eq.2 (by omega)
 rw [hc82] at h81; clear hc82
 refine pk0 (v := .int .i64 0) h81 rfl fun a83 h83 => ?_; clear h81
 refine pk0 (v := .bool ((0 : Int) == 0)) h83 rfl fun a84 h84 => ?_; clear h83
 refine pk0 (v := .bool ((0 : Int) == 0)) h84 rfl fun a85 h85 => ?_; clear h84
 refine pk0 (v := .bool ((0 : Int) == 0)) h85 rfl fun a86 h86 => ?_; clear h85
 have hc87 : ((0 : Int) == 0) = true := by first | (simp; done) | (simp; omega) | exact beq_false_of_ne (by omega) | exact beq_iff_eq.2 (by omega)
 rw [hc87] at h86; clear hc87
 refine pk0 (v := pt p16 0) h86 rfl fun a88 h88 => ?_; clear h86
 have hr93 := rowP hr50 (by unfold offD; decide) hx48 hbk54 (by decide)
 have hr94 := rowD hr93 (by unfold offD; decide) hx63
 refine pw h88 rfl (op_call (args := #[pt p16 0]) (R := fun res xw => ∃ (u : Value), u = res ∧ xw.ownsRow w61.heap.size 9 1 u (([⟨#[98]⟩, ⟨#[99]⟩] : List ByteArray) ++ [(⟨#[100]⟩ : ByteArray)]).length ((([⟨#[98]⟩, ⟨#[99]⟩] : List ByteArray) ++ [(⟨#[100]⟩ : ByteArray)]).flatMap strE) ∧ PtO w.heap.size xw N6 ((2 + ([⟨#[98]⟩, ⟨#[99]⟩] : List ByteArray).length + 1) + 1) p16 (([⟨#[98]⟩, ⟨#[99]⟩] : List ByteArray) ++ [(⟨#[100]⟩ : ByteArray)]) (([⟨#[98]⟩, ⟨#[99]⟩] : List ByteArray).length) (([⟨#[98]⟩, ⟨#[99]⟩] : List ByteArray).length) ((hdP ([⟨#[98]⟩, ⟨#[99]⟩] : List ByteArray).length :: ([⟨#[98]⟩, ⟨#[99]⟩] : List ByteArray).map tT).foldl appA []) ∧ ButD w.heap.size w61 xw) rfl rfl rfl (by kernel_rfl) (by kernel_rfl) (Tryd.call23 _ _) (ptTexts w61 hd62 (by omega) (ht.below hB64) (tab_pos ht)) (by rintro e x ⟨u, rfl, h⟩; exact ⟨_, rfl, u, rfl, h⟩)) ?_; clear h88
 rintro _ w90 a89 ⟨u95, rfl, hr96, hd91, hx92⟩ h89
 have hz98 := hx92.size
 have hB97 := (hbD hB64 hx92)
 have hz99 := hB97.size
 have hln100 := PtO.len hd91
 have hl101 := sl_len (row_sl hr96 strE_lenW)
 refine pw h89 rfl (op_new (v := fun N => .slice (some ⟨N, 0, none⟩) 3 3) (T := 9) (cs := #[.string (⟨#[98]⟩), .string (⟨#[99]⟩), .string (⟨#[100]⟩)]) (by kernel_rfl) (by kernel_rfl) (by kernel_rfl)) ?_; clear h89
 rintro _ w103 a102 ⟨N104, rfl, hN107, hz108, hk106, hg105⟩ h102
 have hr110 := rowD hr94 (by unfold offD; decide) hx92
 have ha109 := row_fresh hr110 hN107
 have ha111 := row_fresh hr96 hN107
 have hz112 := hg105.size
 try dsimp only at h102
 have hr115 := row_of_cells (enc := strE) (sz := 1) ([⟨#[98]⟩, ⟨#[99]⟩, ⟨#[100]⟩] : List ByteArray) hk106 (Nat.le_refl _) rfl rfl (by unfold maxLen; simp)
 have hr116 := row_kept_new hr96 hg105
 have hB117 := hb_new hB97 hg105
 refine pw h102 rfl (op_call (args := #[u95, .slice (some ⟨N104, 0, none⟩) 3 3]) (R := fun res xw => res = .bool true ∧ Below w103.heap.size w103 xw) rfl rfl rfl (by kernel_rfl) (by kernel_rfl) (Tryd.call15 _ _) (sameStr13_any u95 (.slice (some ⟨N104, 0, none⟩) 3 3) (([⟨#[98]⟩, ⟨#[99]⟩] : List ByteArray) ++ [(⟨#[100]⟩ : ByteArray)]) w103 (row_sl hr116 strE_lenW) (sl_castW (row_sl hr115 strE_lenW) (by rfl))) (by rintro e x ⟨rfl, h⟩; exact ⟨_, rfl, rfl, h⟩)) ?_; clear h102
 rintro _ w114 a113 ⟨rfl, hb118⟩ h113
 have hz119 := hb118.size
 refine pk0 (v := .bool true) h113 rfl fun a120 h120 => ?_; clear h113
 refine pk0 (v := .bool true) h120 rfl fun a121 h121 => ?_; clear h120
 refine pk0 (v := pt N6 0) h121 rfl fun a122 h122 => ?_; clear h121
 have hB127 := hb_call hB117 hb118
 have hr128 := row_kept_new hr110 hg105
 have hr129 := row_kept_new hr128 (below_grown hb118)
 have hd130 := hd91.new hg105
 have hd131 := hd130.call hb118
 refine pw h122 rfl (op_call (args := #[pt N6 0]) (R := fun res xw => ∃ (ys : List Int) (u : Value), u = res ∧ xw.ownsRow w114.heap.size 3 1 u ys.length (ys.flatMap (intE .i64)) ∧ ys.length = ((((([⟨#[98]⟩, ⟨#[99]⟩] : List ByteArray) ++ [(⟨#[100]⟩ : ByteArray)]).drop (([⟨#[98]⟩, ⟨#[99]⟩] : List ByteArray).length)).map tT).foldl appA ((hdP ([⟨#[98]⟩, ⟨#[99]⟩] : List ByteArray).length :: ([⟨#[98]⟩, ⟨#[99]⟩] : List ByteArray).map tT).foldl appA [])).length ∧ PtO w.heap.size xw N6 ((2 + ([⟨#[98]⟩, ⟨#[99]⟩] : List ByteArray).length + 1) + 1) p16 (([⟨#[98]⟩, ⟨#[99]⟩] : List ByteArray) ++ [(⟨#[100]⟩ : ByteArray)]) (([⟨#[98]⟩, ⟨#[99]⟩] : List ByteArray).length) (([⟨#[98]⟩, ⟨#[99]⟩] : List ByteArray).length) ((hdP ([⟨#[98]⟩, ⟨#[99]⟩] : List ByteArray).length :: ([⟨#[98]⟩, ⟨#[99]⟩] : List ByteArray).map tT).foldl appA []) ∧ ButD w.heap.size w114 xw) rfl rfl rfl (by kernel_rfl) (by kernel_rfl) (Tryd.call26 _ _) (ptFiles w114 hd131 (by omega)) (by rintro e x ⟨ys, u, rfl, h⟩; exact ⟨_, rfl, ys, u, rfl, h⟩)) ?_; clear h122
 rintro _ w124 a123 ⟨ys134, u132, rfl, hr133, hn135, hd125, hx126⟩ h123
 have hz137 := hx126.size
 have hB136 := (hbD hB127 hx126)
 have hz138 := hB136.size
 have hln139 := PtO.len hd125
 have hl140 := sl_len (row_sl hr133 (intE_len .i64))
 have hfl : ys134.length = 1 := hn135.trans (aw13_len _ _ _ _ (by decide) (by decide) (by decide))
 refine pk (v := .int .i64 ((ys134.length : Nat) : Int)) h123 rfl (rn_lenOwn rfl rfl Tryd.underlying53 hr133) fun a141 h141 => ?_; clear h123
 refine pk0 (v := .bool (((ys134.length : Nat) : Int) == 1)) h141 rfl fun a142 h142 => ?_; clear h141
 refine pk0 (v := .bool (((ys134.length : Nat) : Int) == 1)) h142 rfl fun a143 h143 => ?_; clear h142
 refine pk0 (v := .bool (((ys134.length : Nat) : Int) == 1)) h143 rfl fun a144 h144 => ?_; clear h143
 refine pl_nil ?_
 refine co_then ?_
 refine wp_ret ?_
 refine co_ret1 h144 rfl rfl ?_
 exact ⟨by rw [hfl]; rfl, hB136⟩
end Go.Proofs.YtfiplhnplmadmaaDoor

/- catenalaw13: PointZero. Conditions: a laid table. -/
namespace Go.Proofs.YtfiplhnplmadmaaDoor
open Go.RowKit Go.PlainAid
set_option linter.unusedVariables false
set_option linter.unusedSimpArgs false

set_option maxRecDepth 100000 in
theorem pzeN_any  (w : World)  :
    Calls Tryd.prog 38 #[.pointer none] w fun e w' => e = .returned (.bool true) ∧ Below w.heap.size w w' := by
 have hB0 := Below.refl w.heap.size w
 refine co_enter (n := 12) Tryd.func38 rfl rfl rfl [(0, .pointer none)] rfl (fun a h0 => ?_)
 refine co_seq ?_
 refine co_reg ?_
 refine pk0 (v := .bool false) h0 rfl fun a1 h1 => ?_; clear h0
 refine pl_nil ?_
 refine co_then ?_
 refine co_seq ?_
 refine co_reg ?_
 refine pk0 (v := .pointer none) h1 rfl fun a2 h2 => ?_; clear h1
 refine pk0 (v := .bool true) h2 rfl fun a3 h3 => ?_; clear h2
 refine pk0 (v := .bool true) h3 rfl fun a4 h4 => ?_; clear h3
 refine psk h4 rfl fun a5 h5 => ?_; clear h4
 refine psk h5 rfl fun a6 h6 => ?_; clear h5
 refine psk h6 rfl fun a7 h7 => ?_; clear h6
 refine psk h7 rfl fun a8 h8 => ?_; clear h7
 refine psk h8 rfl fun a9 h9 => ?_; clear h8
 refine pk0 (v := .bool true) h9 rfl fun a10 h10 => ?_; clear h9
 refine pk0 (v := .bool true) h10 rfl fun a11 h11 => ?_; clear h10
 refine pl_nil ?_
 refine co_then ?_
 refine wp_ret ?_
 refine co_ret1 h11 rfl rfl ?_
 exact ⟨rfl, hB0⟩
set_option maxRecDepth 100000 in
theorem pzeZ_any (b : Nat) (w : World) (hb : Blk w b 61 #[.bool false, .pointer none, .int .i64 0, .pointer none]) :
    Calls Tryd.prog 38 #[pt b 0] w fun e w' => e = .returned (.bool true) ∧ Below w.heap.size w w' := by
 have hB0 := Below.refl w.heap.size w
 have hl_hb := hb.lt
 refine co_enter (n := 12) Tryd.func38 rfl rfl rfl [(0, pt b 0)] rfl (fun a h0 => ?_)
 refine co_seq ?_
 refine co_reg ?_
 refine pk0 (v := .bool false) h0 rfl fun a1 h1 => ?_; clear h0
 refine pl_nil ?_
 refine co_then ?_
 refine co_seq ?_
 refine co_reg ?_
 refine pk0 (v := pt b 0) h1 rfl fun a2 h2 => ?_; clear h1
 refine pk0 (v := .bool false) h2 rfl fun a3 h3 => ?_; clear h2
 refine pk0 (v := .bool false) h3 rfl fun a4 h4 => ?_; clear h3
 refine pk0 (v := pt b 0) h4 rfl fun a5 h5 => ?_; clear h4
 refine pk0 (v := pt b 0) h5 rfl fun a6 h6 => ?_; clear h5
 refine pk0 (v := pt b 0) h6 rfl fun a7 h7 => ?_; clear h6
 refine pk (v := .bool false) h7 rfl (rn_load1 rfl rfl Tryd.isAgg4 (hb.cell rfl)) fun a8 h8 => ?_; clear h7
 refine pk0 (v := .bool true) h8 rfl fun a9 h9 => ?_; clear h8
 refine pk0 (v := .bool true) h9 rfl fun a10 h10 => ?_; clear h9
 refine pk0 (v := .bool true) h10 rfl fun a11 h11 => ?_; clear h10
 refine pl_nil ?_
 refine co_then ?_
 refine wp_ret ?_
 refine co_ret1 h11 rfl rfl ?_
 exact ⟨rfl, hB0⟩
set_option maxRecDepth 100000 in
theorem papN_any (t : ByteArray) (w : World)  :
    Calls Tryd.prog 21 #[.pointer none, .string t] w fun e w' => e = .returned (.int .i64 8) ∧ Below w.heap.size w w' := by
 have hB0 := Below.refl w.heap.size w
 refine co_enter (n := 18) Tryd.func21 rfl rfl rfl [(0, .pointer none), (1, .string t)] rfl (fun a h0 => ?_)
 refine co_seq ?_
 refine co_reg ?_
 refine pk0 (v := .int .i64 0) h0 rfl fun a1 h1 => ?_; clear h0
 refine pl_nil ?_
 refine co_then ?_
 refine co_seq ?_
 refine co_seq ?_
 refine co_reg ?_
 refine pk0 (v := .pointer none) h1 rfl fun a2 h2 => ?_; clear h1
 refine pw h2 rfl (op_call (args := #[.pointer none]) (R := fun res xw => res = .bool true ∧ Below w.heap.size w xw) rfl rfl rfl (by kernel_rfl) (by kernel_rfl) (Tryd.call38 _ _) (pzeN_any  w ) (by rintro e x ⟨rfl, hb5⟩; exact ⟨_, rfl, ⟨rfl, hb5⟩⟩)) ?_; clear h2
 rintro _ w4 a3 ⟨rfl, hb5⟩ h3
 have hz6 := hb5.size
 refine pl_nil ?_
 refine co_then ?_
 refine co_true h3 rfl ?_
 refine co_seq ?_
 refine co_reg ?_
 refine pk0 (v := .int .i64 8) h3 rfl fun a7 h7 => ?_; clear h3
 refine pl_nil ?_
 refine co_then ?_
 refine wp_ret ?_
 refine co_thenR ?_
 refine co_ret1 h7 rfl rfl ?_
 have hB8 := hb_call hB0 hb5
 exact ⟨rfl, hB8⟩
set_option maxRecDepth 100000 in
theorem papZ_any (b : Nat) (t : ByteArray) (w : World) (hb : Blk w b 61 #[.bool false, .pointer none, .int .i64 0, .pointer none]) :
    Calls Tryd.prog 21 #[pt b 0, .string t] w fun e w' => e = .returned (.int .i64 8) ∧ Below w.heap.size w w' := by
 have hB0 := Below.refl w.heap.size w
 have hl_hb := hb.lt
 refine co_enter (n := 18) Tryd.func21 rfl rfl rfl [(0, pt b 0), (1, .string t)] rfl (fun a h0 => ?_)
 refine co_seq ?_
 refine co_reg ?_
 refine pk0 (v := .int .i64 0) h0 rfl fun a1 h1 => ?_; clear h0
 refine pl_nil ?_
 refine co_then ?_
 refine co_seq ?_
 refine co_seq ?_
 refine co_reg ?_
 refine pk0 (v := pt b 0) h1 rfl fun a2 h2 => ?_; clear h1
 refine pw h2 rfl (op_call (args := #[pt b 0]) (R := fun res xw => res = .bool true ∧ Below w.heap.size w xw) rfl rfl rfl (by kernel_rfl) (by kernel_rfl) (Tryd.call38 _ _) (pzeZ_any b w hb) (by rintro e x ⟨rfl, hb5⟩; exact ⟨_, rfl, ⟨rfl, hb5⟩⟩)) ?_; clear h2
 rintro _ w4 a3 ⟨rfl, hb5⟩ h3
 have hz6 := hb5.size
 refine pl_nil ?_
 refine co_then ?_
 refine co_true h3 rfl ?_
 refine co_seq ?_
 refine co_reg ?_
 refine pk0 (v := .int .i64 8) h3 rfl fun a7 h7 => ?_; clear h3
 refine pl_nil ?_
 refine co_then ?_
 refine wp_ret ?_
 refine co_thenR ?_
 refine co_ret1 h7 rfl rfl ?_
 have hB8 := hb_call hB0 hb5
 exact ⟨rfl, hB8⟩
set_option maxRecDepth 100000 in
theorem psaN_any (v : Value) (w : World)  :
    Calls Tryd.prog 25 #[.pointer none, v] w fun e w' => e = .returned (.int .i64 8) ∧ Below w.heap.size w w' := by
 have hB0 := Below.refl w.heap.size w
 refine co_enter (n := 58) Tryd.func25 rfl rfl rfl [(0, .pointer none), (1, v)] rfl (fun a h0 => ?_)
 refine co_seq ?_
 refine co_reg ?_
 refine pk0 (v := .int .i64 0) h0 rfl fun a1 h1 => ?_; clear h0
 refine pl_nil ?_
 refine co_then ?_
 refine co_seq ?_
 refine co_seq ?_
 refine co_reg ?_
 refine pk0 (v := .pointer none) h1 rfl fun a2 h2 => ?_; clear h1
 refine pw h2 rfl (op_call (args := #[.pointer none]) (R := fun res xw => res = .bool true ∧ Below w.heap.size w xw) rfl rfl rfl (by kernel_rfl) (by kernel_rfl) (Tryd.call38 _ _) (pzeN_any  w ) (by rintro e x ⟨rfl, hb5⟩; exact ⟨_, rfl, ⟨rfl, hb5⟩⟩)) ?_; clear h2
 rintro _ w4 a3 ⟨rfl, hb5⟩ h3
 have hz6 := hb5.size
 refine pl_nil ?_
 refine co_then ?_
 refine co_true h3 rfl ?_
 refine co_seq ?_
 refine co_reg ?_
 refine pk0 (v := .int .i64 8) h3 rfl fun a7 h7 => ?_; clear h3
 refine pl_nil ?_
 refine co_then ?_
 refine wp_ret ?_
 refine co_thenR ?_
 refine co_ret1 h7 rfl rfl ?_
 have hB8 := hb_call hB0 hb5
 exact ⟨rfl, hB8⟩
set_option maxRecDepth 100000 in
theorem psaZ_any (b : Nat) (v : Value) (w : World) (hb : Blk w b 61 #[.bool false, .pointer none, .int .i64 0, .pointer none]) :
    Calls Tryd.prog 25 #[pt b 0, v] w fun e w' => e = .returned (.int .i64 8) ∧ Below w.heap.size w w' := by
 have hB0 := Below.refl w.heap.size w
 have hl_hb := hb.lt
 refine co_enter (n := 58) Tryd.func25 rfl rfl rfl [(0, pt b 0), (1, v)] rfl (fun a h0 => ?_)
 refine co_seq ?_
 refine co_reg ?_
 refine pk0 (v := .int .i64 0) h0 rfl fun a1 h1 => ?_; clear h0
 refine pl_nil ?_
 refine co_then ?_
 refine co_seq ?_
 refine co_seq ?_
 refine co_reg ?_
 refine pk0 (v := pt b 0) h1 rfl fun a2 h2 => ?_; clear h1
 refine pw h2 rfl (op_call (args := #[pt b 0]) (R := fun res xw => res = .bool true ∧ Below w.heap.size w xw) rfl rfl rfl (by kernel_rfl) (by kernel_rfl) (Tryd.call38 _ _) (pzeZ_any b w hb) (by rintro e x ⟨rfl, hb5⟩; exact ⟨_, rfl, ⟨rfl, hb5⟩⟩)) ?_; clear h2
 rintro _ w4 a3 ⟨rfl, hb5⟩ h3
 have hz6 := hb5.size
 refine pl_nil ?_
 refine co_then ?_
 refine co_true h3 rfl ?_
 refine co_seq ?_
 refine co_reg ?_
 refine pk0 (v := .int .i64 8) h3 rfl fun a7 h7 => ?_; clear h3
 refine pl_nil ?_
 refine co_then ?_
 refine wp_ret ?_
 refine co_thenR ?_
 refine co_ret1 h7 rfl rfl ?_
 have hB8 := hb_call hB0 hb5
 exact ⟨rfl, hB8⟩
set_option maxRecDepth 100000 in
theorem psyN_any  (w : World)  :
    Calls Tryd.prog 22 #[.pointer none] w fun e w' => e = .returned (.int .i64 0) ∧ Below w.heap.size w w' := by
 have hB0 := Below.refl w.heap.size w
 refine co_enter (n := 11) Tryd.func22 rfl rfl rfl [(0, .pointer none)] rfl (fun a h0 => ?_)
 refine co_seq ?_
 refine co_reg ?_
 refine pk0 (v := .int .i64 0) h0 rfl fun a1 h1 => ?_; clear h0
 refine pl_nil ?_
 refine co_then ?_
 refine co_seq ?_
 refine co_seq ?_
 refine co_reg ?_
 refine pk0 (v := .pointer none) h1 rfl fun a2 h2 => ?_; clear h1
 refine pw h2 rfl (op_call (args := #[.pointer none]) (R := fun res xw => res = .bool true ∧ Below w.heap.size w xw) rfl rfl rfl (by kernel_rfl) (by kernel_rfl) (Tryd.call38 _ _) (pzeN_any  w ) (by rintro e x ⟨rfl, hb5⟩; exact ⟨_, rfl, ⟨rfl, hb5⟩⟩)) ?_; clear h2
 rintro _ w4 a3 ⟨rfl, hb5⟩ h3
 have hz6 := hb5.size
 refine pl_nil ?_
 refine co_then ?_
 refine co_true h3 rfl ?_
 refine co_seq ?_
 refine co_reg ?_
 refine pk0 (v := .int .i64 0) h3 rfl fun a7 h7 => ?_; clear h3
 refine pl_nil ?_
 refine co_then ?_
 refine wp_ret ?_
 refine co_thenR ?_
 refine co_ret1 h7 rfl rfl ?_
 have hB8 := hb_call hB0 hb5
 exact ⟨rfl, hB8⟩
set_option maxRecDepth 100000 in
theorem psyZ_any (b : Nat) (w : World) (hb : Blk w b 61 #[.bool false, .pointer none, .int .i64 0, .pointer none]) :
    Calls Tryd.prog 22 #[pt b 0] w fun e w' => e = .returned (.int .i64 0) ∧ Below w.heap.size w w' := by
 have hB0 := Below.refl w.heap.size w
 have hl_hb := hb.lt
 refine co_enter (n := 11) Tryd.func22 rfl rfl rfl [(0, pt b 0)] rfl (fun a h0 => ?_)
 refine co_seq ?_
 refine co_reg ?_
 refine pk0 (v := .int .i64 0) h0 rfl fun a1 h1 => ?_; clear h0
 refine pl_nil ?_
 refine co_then ?_
 refine co_seq ?_
 refine co_seq ?_
 refine co_reg ?_
 refine pk0 (v := pt b 0) h1 rfl fun a2 h2 => ?_; clear h1
 refine pw h2 rfl (op_call (args := #[pt b 0]) (R := fun res xw => res = .bool true ∧ Below w.heap.size w xw) rfl rfl rfl (by kernel_rfl) (by kernel_rfl) (Tryd.call38 _ _) (pzeZ_any b w hb) (by rintro e x ⟨rfl, hb5⟩; exact ⟨_, rfl, ⟨rfl, hb5⟩⟩)) ?_; clear h2
 rintro _ w4 a3 ⟨rfl, hb5⟩ h3
 have hz6 := hb5.size
 refine pl_nil ?_
 refine co_then ?_
 refine co_true h3 rfl ?_
 refine co_seq ?_
 refine co_reg ?_
 refine pk0 (v := .int .i64 0) h3 rfl fun a7 h7 => ?_; clear h3
 refine pl_nil ?_
 refine co_then ?_
 refine wp_ret ?_
 refine co_thenR ?_
 refine co_ret1 h7 rfl rfl ?_
 have hB8 := hb_call hB0 hb5
 exact ⟨rfl, hB8⟩
set_option maxRecDepth 100000 in
theorem psiN_any  (w : World)  :
    Calls Tryd.prog 29 #[.pointer none] w fun e w' => e = .returned (.int .i64 0) ∧ Below w.heap.size w w' := by
 have hB0 := Below.refl w.heap.size w
 refine co_enter (n := 29) Tryd.func29 rfl rfl rfl [(0, .pointer none)] rfl (fun a h0 => ?_)
 refine co_seq ?_
 refine co_reg ?_
 refine pk0 (v := .int .i64 0) h0 rfl fun a1 h1 => ?_; clear h0
 refine pl_nil ?_
 refine co_then ?_
 refine co_seq ?_
 refine co_seq ?_
 refine co_reg ?_
 refine pk0 (v := .pointer none) h1 rfl fun a2 h2 => ?_; clear h1
 refine pw h2 rfl (op_call (args := #[.pointer none]) (R := fun res xw => res = .bool true ∧ Below w.heap.size w xw) rfl rfl rfl (by kernel_rfl) (by kernel_rfl) (Tryd.call38 _ _) (pzeN_any  w ) (by rintro e x ⟨rfl, hb5⟩; exact ⟨_, rfl, ⟨rfl, hb5⟩⟩)) ?_; clear h2
 rintro _ w4 a3 ⟨rfl, hb5⟩ h3
 have hz6 := hb5.size
 refine pl_nil ?_
 refine co_then ?_
 refine co_true h3 rfl ?_
 refine co_seq ?_
 refine co_reg ?_
 refine pk0 (v := .int .i64 0) h3 rfl fun a7 h7 => ?_; clear h3
 refine pl_nil ?_
 refine co_then ?_
 refine wp_ret ?_
 refine co_thenR ?_
 refine co_ret1 h7 rfl rfl ?_
 have hB8 := hb_call hB0 hb5
 exact ⟨rfl, hB8⟩
set_option maxRecDepth 100000 in
theorem psiZ_any (b : Nat) (w : World) (hb : Blk w b 61 #[.bool false, .pointer none, .int .i64 0, .pointer none]) :
    Calls Tryd.prog 29 #[pt b 0] w fun e w' => e = .returned (.int .i64 0) ∧ Below w.heap.size w w' := by
 have hB0 := Below.refl w.heap.size w
 have hl_hb := hb.lt
 refine co_enter (n := 29) Tryd.func29 rfl rfl rfl [(0, pt b 0)] rfl (fun a h0 => ?_)
 refine co_seq ?_
 refine co_reg ?_
 refine pk0 (v := .int .i64 0) h0 rfl fun a1 h1 => ?_; clear h0
 refine pl_nil ?_
 refine co_then ?_
 refine co_seq ?_
 refine co_seq ?_
 refine co_reg ?_
 refine pk0 (v := pt b 0) h1 rfl fun a2 h2 => ?_; clear h1
 refine pw h2 rfl (op_call (args := #[pt b 0]) (R := fun res xw => res = .bool true ∧ Below w.heap.size w xw) rfl rfl rfl (by kernel_rfl) (by kernel_rfl) (Tryd.call38 _ _) (pzeZ_any b w hb) (by rintro e x ⟨rfl, hb5⟩; exact ⟨_, rfl, ⟨rfl, hb5⟩⟩)) ?_; clear h2
 rintro _ w4 a3 ⟨rfl, hb5⟩ h3
 have hz6 := hb5.size
 refine pl_nil ?_
 refine co_then ?_
 refine co_true h3 rfl ?_
 refine co_seq ?_
 refine co_reg ?_
 refine pk0 (v := .int .i64 0) h3 rfl fun a7 h7 => ?_; clear h3
 refine pl_nil ?_
 refine co_then ?_
 refine wp_ret ?_
 refine co_thenR ?_
 refine co_ret1 h7 rfl rfl ?_
 have hB8 := hb_call hB0 hb5
 exact ⟨rfl, hB8⟩
set_option maxRecDepth 100000 in
theorem pteN_any  (w : World)  :
    Calls Tryd.prog 23 #[.pointer none] w fun e w' => e = .returned (.slice none 0 0) ∧ Below w.heap.size w w' := by
 have hB0 := Below.refl w.heap.size w
 refine co_enter (n := 23) Tryd.func23 rfl rfl rfl [(0, .pointer none)] rfl (fun a h0 => ?_)
 refine co_seq ?_
 refine co_reg ?_
 refine pk0 (v := .slice none 0 0) h0 rfl fun a1 h1 => ?_; clear h0
 refine pl_nil ?_
 refine co_then ?_
 refine co_seq ?_
 refine co_seq ?_
 refine co_reg ?_
 refine pk0 (v := .pointer none) h1 rfl fun a2 h2 => ?_; clear h1
 refine pw h2 rfl (op_call (args := #[.pointer none]) (R := fun res xw => res = .bool true ∧ Below w.heap.size w xw) rfl rfl rfl (by kernel_rfl) (by kernel_rfl) (Tryd.call38 _ _) (pzeN_any  w ) (by rintro e x ⟨rfl, hb5⟩; exact ⟨_, rfl, ⟨rfl, hb5⟩⟩)) ?_; clear h2
 rintro _ w4 a3 ⟨rfl, hb5⟩ h3
 have hz6 := hb5.size
 refine pl_nil ?_
 refine co_then ?_
 refine co_true h3 rfl ?_
 refine co_seq ?_
 refine co_reg ?_
 refine pk0 (v := .slice none 0 0) h3 rfl fun a7 h7 => ?_; clear h3
 refine pl_nil ?_
 refine co_then ?_
 refine wp_ret ?_
 refine co_thenR ?_
 refine co_ret1 h7 rfl rfl ?_
 have hB8 := hb_call hB0 hb5
 exact ⟨rfl, hB8⟩
set_option maxRecDepth 100000 in
theorem pteZ_any (b : Nat) (w : World) (hb : Blk w b 61 #[.bool false, .pointer none, .int .i64 0, .pointer none]) :
    Calls Tryd.prog 23 #[pt b 0] w fun e w' => e = .returned (.slice none 0 0) ∧ Below w.heap.size w w' := by
 have hB0 := Below.refl w.heap.size w
 have hl_hb := hb.lt
 refine co_enter (n := 23) Tryd.func23 rfl rfl rfl [(0, pt b 0)] rfl (fun a h0 => ?_)
 refine co_seq ?_
 refine co_reg ?_
 refine pk0 (v := .slice none 0 0) h0 rfl fun a1 h1 => ?_; clear h0
 refine pl_nil ?_
 refine co_then ?_
 refine co_seq ?_
 refine co_seq ?_
 refine co_reg ?_
 refine pk0 (v := pt b 0) h1 rfl fun a2 h2 => ?_; clear h1
 refine pw h2 rfl (op_call (args := #[pt b 0]) (R := fun res xw => res = .bool true ∧ Below w.heap.size w xw) rfl rfl rfl (by kernel_rfl) (by kernel_rfl) (Tryd.call38 _ _) (pzeZ_any b w hb) (by rintro e x ⟨rfl, hb5⟩; exact ⟨_, rfl, ⟨rfl, hb5⟩⟩)) ?_; clear h2
 rintro _ w4 a3 ⟨rfl, hb5⟩ h3
 have hz6 := hb5.size
 refine pl_nil ?_
 refine co_then ?_
 refine co_true h3 rfl ?_
 refine co_seq ?_
 refine co_reg ?_
 refine pk0 (v := .slice none 0 0) h3 rfl fun a7 h7 => ?_; clear h3
 refine pl_nil ?_
 refine co_then ?_
 refine wp_ret ?_
 refine co_thenR ?_
 refine co_ret1 h7 rfl rfl ?_
 have hB8 := hb_call hB0 hb5
 exact ⟨rfl, hB8⟩
set_option maxRecDepth 100000 in
theorem pneN_any  (w : World)  :
    Calls Tryd.prog 20 #[.pointer none] w fun e w' => e = .returned (.tuple #[.pointer none, .int .i64 1]) ∧ Below w.heap.size w w' := by
 have hB0 := Below.refl w.heap.size w
 refine co_enter (n := 23) Tryd.func20 rfl rfl rfl [(0, .pointer none)] rfl (fun a h0 => ?_)
 refine co_seq ?_
 refine co_reg ?_
 refine pk0 (v := .pointer none) h0 rfl fun a1 h1 => ?_; clear h0
 refine pk0 (v := .int .i64 0) h1 rfl fun a2 h2 => ?_; clear h1
 refine pl_nil ?_
 refine co_then ?_
 refine co_seq ?_
 refine co_seq ?_
 refine co_reg ?_
 refine pk0 (v := .pointer none) h2 rfl fun a3 h3 => ?_; clear h2
 refine pk0 (v := .bool true) h3 rfl fun a4 h4 => ?_; clear h3
 refine pl_nil ?_
 refine co_then ?_
 refine co_true h4 rfl ?_
 refine co_seq ?_
 refine co_reg ?_
 refine pk0 (v := .pointer none) h4 rfl fun a5 h5 => ?_; clear h4
 refine pk0 (v := .int .i64 1) h5 rfl fun a6 h6 => ?_; clear h5
 refine pl_nil ?_
 refine co_then ?_
 refine wp_ret ?_
 refine co_thenR ?_
 refine co_ret2 h6 rfl rfl rfl ?_
 exact ⟨rfl, hB0⟩
set_option maxRecDepth 100000 in
theorem popN_any  (w : World)  :
    Calls Tryd.prog 24 #[.pointer none] w fun e w' => e = .returned (.tuple #[.pointer none, .int .i64 1]) ∧ Below w.heap.size w w' := by
 have hB0 := Below.refl w.heap.size w
 refine co_enter (n := 55) Tryd.func24 rfl rfl rfl [(0, .pointer none)] rfl (fun a h0 => ?_)
 refine co_seq ?_
 refine co_reg ?_
 refine pk0 (v := .pointer none) h0 rfl fun a1 h1 => ?_; clear h0
 refine pk0 (v := .int .i64 0) h1 rfl fun a2 h2 => ?_; clear h1
 refine pl_nil ?_
 refine co_then ?_
 refine co_seq ?_
 refine co_seq ?_
 refine co_reg ?_
 refine pk0 (v := .pointer none) h2 rfl fun a3 h3 => ?_; clear h2
 refine pk0 (v := .bool true) h3 rfl fun a4 h4 => ?_; clear h3
 refine pl_nil ?_
 refine co_then ?_
 refine co_true h4 rfl ?_
 refine co_seq ?_
 refine co_reg ?_
 refine pk0 (v := .pointer none) h4 rfl fun a5 h5 => ?_; clear h4
 refine pk0 (v := .int .i64 1) h5 rfl fun a6 h6 => ?_; clear h5
 refine pl_nil ?_
 refine co_then ?_
 refine wp_ret ?_
 refine co_thenR ?_
 refine co_ret2 h6 rfl rfl rfl ?_
 exact ⟨rfl, hB0⟩
set_option maxRecDepth 100000 in
set_option maxHeartbeats 3200000 in
theorem pointZero_law (t : ByteArray) (v : Value) (l : List ByteArray) (w : World) (ht : Tab w) (htz : t.size ≤ 140737488351232) (hs : SliceOf strE 1 w v l) (hln : l.length ≤ 8796093022208) (hgz : ∀ s ∈ l, s.size ≤ 140737488351232) :
    Calls Tryd.prog 7 #[.string t, v] w fun e w' => e = .returned (.bool true) ∧ Below w.heap.size w w' := by
 have hB0 := Below.refl w.heap.size w
 have hl_hs := sl_len hs
 refine co_enter (n := 82) Tryd.func7 rfl rfl rfl [(0, .string t), (1, v)] rfl (fun a h0 => ?_)
 refine co_seq ?_
 refine co_reg ?_
 refine pk0 (v := .bool false) h0 rfl fun a1 h1 => ?_; clear h0
 refine pl_nil ?_
 refine co_then ?_
 refine co_seq ?_
 refine co_seq ?_
 refine co_reg ?_
 refine pk0 (v := .string t) h1 rfl fun a2 h2 => ?_; clear h1
 refine pk0 (v := v) h2 rfl fun a3 h3 => ?_; clear h2
 refine pk (v := .agg #[.int .i64 0, .string t, v, .int .i64 0]) h3 rfl (by obtain ⟨_, _, _, hq⟩ := sl_form hs; subst hq; kernel_rfl) fun a4 h4 => ?_; clear h3
 refine pw h4 rfl (op_new (v := fun N => .slice (some ⟨N, 0, none⟩) 1 1) (T := 49) (cs := #[.int .i64 0, .string t, v, .int .i64 0]) (by kernel_rfl) (by kernel_rfl) (by kernel_rfl)) ?_; clear h4
 rintro _ w6 a5 ⟨N7, rfl, hN10, hz11, hk9, hg8⟩ h5
 have hz12 := hg8.size
 try dsimp only at h5
 have hr15 := row_of_cells (enc := pactE) (sz := 4) ([(PActT.mk 0 t v l 0)] : List PActT) hk9 (Nat.le_refl _) rfl rfl (by unfold maxLen; simp)
 have hB16 := hb_new hB0 hg8
 refine pw h5 rfl (op_call (args := #[.slice (some ⟨N7, 0, none⟩) 1 1]) (R := fun res xw => ∃ b : Bool, res = .bool b ∧ Below w6.heap.size w6 xw) rfl rfl rfl (by kernel_rfl) (by kernel_rfl) (Tryd.call18 _ _) (short13_some (.slice (some ⟨N7, 0, none⟩) 1 1) ([(PActT.mk 0 t v l 0)] : List PActT) w6 (row_sl hr15 pactE_len) (by intro z hz; simp at hz; subst hz; exact ⟨(hs.below hB16)⟩)) (by rintro e x ⟨b, rfl, h⟩; exact ⟨_, rfl, b, rfl, h⟩)) ?_; clear h5
 rintro _ w14 a13 ⟨b18, rfl, hb17⟩ h13
 have hz19 := hb17.size
 have hB21 := hb_call hB16 hb17
 cases hc20 : (b18)
 ·
  rw [hc20] at h13
  refine pk0 (v := .bool true) h13 rfl fun a22 h22 => ?_; clear h13
  refine pl_nil ?_
  refine co_then ?_
  refine co_true h22 rfl ?_
  refine co_seq ?_
  refine co_reg ?_
  refine pw h22 rfl (op_call (args := #[]) (R := fun res xw => res = .bool true ∧ Below w14.heap.size w14 xw) rfl rfl rfl (by kernel_rfl) (by kernel_rfl) (Tryd.call19 _ _) (awake13 w14 (ht.below hB21)) (by rintro e x ⟨rfl, h⟩; exact ⟨_, rfl, rfl, h⟩)) ?_; clear h22
  rintro _ w24 a23 ⟨rfl, hb25⟩ h23
  have hz26 := hb25.size
  refine pk0 (v := .bool true) h23 rfl fun a27 h27 => ?_; clear h23
  refine pl_nil ?_
  refine co_then ?_
  refine wp_ret ?_
  refine co_thenR ?_
  refine co_ret1 h27 rfl rfl ?_
  have hB28 := hb_call hB21 hb25
  exact ⟨rfl, hB28⟩
 ·
  rw [hc20] at h13
  refine pk0 (v := .bool false) h13 rfl fun a29 h29 => ?_; clear h13
  refine pl_nil ?_
  refine co_then ?_
  refine co_false h29 rfl ?_
  refine wp_skip ?_
  refine co_then ?_
  refine co_seq ?_
  refine co_reg ?_
  refine pk0 (v := .pointer none) h29 rfl fun a30 h30 => ?_; clear h29
  refine pl_nil ?_
  refine co_then ?_
  refine co_seq ?_
  refine co_reg ?_
  refine pw h30 rfl (op_new (v := fun N => pt N 0) (T := 61) (cs := #[.bool false, .pointer none, .int .i64 0, .pointer none]) (by kernel_rfl) (by kernel_rfl) (by kernel_rfl)) ?_; clear h30
  rintro _ w32 a31 ⟨N33, rfl, hN36, hz37, hk35, hg34⟩ h31
  have hr39 := row_kept_new hr15 (below_grown hb17)
  have ha38 := row_fresh hr39 hN36
  have hz40 := hg34.size
  try dsimp only at h31
  refine pl_nil ?_
  refine co_then ?_
  refine co_seq ?_
  refine co_reg ?_
  refine pw h31 rfl (op_call (args := #[.pointer none]) (R := fun res xw => res = .tuple #[.pointer none, .int .i64 1] ∧ Below w32.heap.size w32 xw) rfl rfl rfl (by kernel_rfl) (by kernel_rfl) (Tryd.call20 _ _) (pneN_any  w32 ) (by rintro e x ⟨rfl, hb43⟩; exact ⟨_, rfl, ⟨rfl, hb43⟩⟩)) ?_; clear h31
  rintro _ w42 a41 ⟨rfl, hb43⟩ h41
  have hz44 := hb43.size
  refine pk0 (v := .tuple #[.pointer none, .int .i64 1]) h41 rfl fun a45 h45 => ?_; clear h41
  refine pk0 (v := .pointer none) h45 rfl fun a46 h46 => ?_; clear h45
  refine pk0 (v := .int .i64 1) h46 rfl fun a47 h47 => ?_; clear h46
  refine pk0 (v := .pointer none) h47 rfl fun a48 h48 => ?_; clear h47
  refine pk0 (v := .int .i64 1) h48 rfl fun a49 h49 => ?_; clear h48
  refine pl_nil ?_
  refine co_then ?_
  refine co_seq ?_
  refine co_reg ?_
  refine pw h49 rfl (op_call (args := #[.pointer none]) (R := fun res xw => res = .tuple #[.pointer none, .int .i64 1] ∧ Below w42.heap.size w42 xw) rfl rfl rfl (by kernel_rfl) (by kernel_rfl) (Tryd.call24 _ _) (popN_any  w42 ) (by rintro e x ⟨rfl, hb52⟩; exact ⟨_, rfl, ⟨rfl, hb52⟩⟩)) ?_; clear h49
  rintro _ w51 a50 ⟨rfl, hb52⟩ h50
  have hz53 := hb52.size
  refine pk0 (v := .tuple #[.pointer none, .int .i64 1]) h50 rfl fun a54 h54 => ?_; clear h50
  refine pk0 (v := .pointer none) h54 rfl fun a55 h55 => ?_; clear h54
  refine pk0 (v := .int .i64 1) h55 rfl fun a56 h56 => ?_; clear h55
  refine pk0 (v := .pointer none) h56 rfl fun a57 h57 => ?_; clear h56
  refine pk0 (v := .int .i64 1) h57 rfl fun a58 h58 => ?_; clear h57
  refine pl_nil ?_
  refine co_then ?_
  refine co_seq ?_
  refine co_reg ?_
  refine pk0 (v := .int .i64 8) h58 rfl fun a59 h59 => ?_; clear h58
  refine pl_nil ?_
  refine co_then ?_
  refine co_seq ?_
  refine co_reg ?_
  refine pk0 (v := .int .i64 1) h59 rfl fun a60 h60 => ?_; clear h59
  refine pk0 (v := .bool ((1 : Int) == 1)) h60 rfl fun a61 h61 => ?_; clear h60
  refine pk0 (v := .bool ((1 : Int) == 1)) h61 rfl fun a62 h62 => ?_; clear h61
  have hc63 : ((1 : Int) == 1) = true := by first | (simp; done) | (simp; omega) | exact beq_false_of_ne (by omega) | exact beq_iff_eq.2 (by omega)
  rw [hc63] at h62; clear hc63
  refine pk0 (v := .int .i64 1) h62 rfl fun a64 h64 => ?_; clear h62
  refine pk0 (v := .int .i64 1) h64 rfl fun a65 h65 => ?_; clear h64
  refine pk0 (v := .bool ((1 : Int) == 1)) h65 rfl fun a66 h66 => ?_; clear h65
  refine pk0 (v := .bool ((1 : Int) == 1)) h66 rfl fun a67 h67 => ?_; clear h66
  refine pk0 (v := .bool ((1 : Int) == 1)) h67 rfl fun a68 h68 => ?_; clear h67
  have hc69 : ((1 : Int) == 1) = true := by first | (simp; done) | (simp; omega) | exact beq_false_of_ne (by omega) | exact beq_iff_eq.2 (by omega)
  rw [hc69] at h68; clear hc69
  refine pk0 (v := .pointer none) h68 rfl fun a70 h70 => ?_; clear h68
  refine pk0 (v := .string t) h70 rfl fun a71 h71 => ?_; clear h70
  refine pw h71 rfl (op_call (args := #[.pointer none, .string t]) (R := fun res xw => res = .int .i64 8 ∧ Below w51.heap.size w51 xw) rfl rfl rfl (by kernel_rfl) (by kernel_rfl) (Tryd.call21 _ _) (papN_any t w51 ) (by rintro e x ⟨rfl, hb74⟩; exact ⟨_, rfl, ⟨rfl, hb74⟩⟩)) ?_; clear h71
  rintro _ w73 a72 ⟨rfl, hb74⟩ h72
  have hz75 := hb74.size
  refine pk0 (v := .int .i64 8) h72 rfl fun a76 h76 => ?_; clear h72
  refine pk0 (v := .bool ((8 : Int) == 8)) h76 rfl fun a77 h77 => ?_; clear h76
  refine pk0 (v := .bool ((8 : Int) == 8)) h77 rfl fun a78 h78 => ?_; clear h77
  refine pk0 (v := .bool ((8 : Int) == 8)) h78 rfl fun a79 h79 => ?_; clear h78
  have hc80 : ((8 : Int) == 8) = true := by first | (simp; done) | (simp; omega) | exact beq_false_of_ne (by omega) | exact beq_iff_eq.2 (by omega)
  rw [hc80] at h79; clear hc80
  refine pk0 (v := .string t) h79 rfl fun a81 h81 => ?_; clear h79
  have hk84 := hk35.below hb43
  have hk85 := hk84.below hb52
  have hk86 := hk85.below hb74
  refine pw h81 rfl (op_call (args := #[pt N33 0, .string t]) (R := fun res xw => res = .int .i64 8 ∧ Below w73.heap.size w73 xw) rfl rfl rfl (by kernel_rfl) (by kernel_rfl) (Tryd.call21 _ _) (papZ_any N33 t w73 hk86) (by rintro e x ⟨rfl, hb87⟩; exact ⟨_, rfl, ⟨rfl, hb87⟩⟩)) ?_; clear h81
  rintro _ w83 a82 ⟨rfl, hb87⟩ h82
  have hz88 := hb87.size
  refine pk0 (v := .int .i64 8) h82 rfl fun a89 h89 => ?_; clear h82
  refine pk0 (v := .bool ((8 : Int) == 8)) h89 rfl fun a90 h90 => ?_; clear h89
  refine pk0 (v := .bool ((8 : Int) == 8)) h90 rfl fun a91 h91 => ?_; clear h90
  refine pk0 (v := .bool ((8 : Int) == 8)) h91 rfl fun a92 h92 => ?_; clear h91
  have hc93 : ((8 : Int) == 8) = true := by first | (simp; done) | (simp; omega) | exact beq_false_of_ne (by omega) | exact beq_iff_eq.2 (by omega)
  rw [hc93] at h92; clear hc93
  refine pk0 (v := .pointer none) h92 rfl fun a94 h94 => ?_; clear h92
  refine pk0 (v := v) h94 rfl fun a95 h95 => ?_; clear h94
  refine pw h95 rfl (op_call (args := #[.pointer none, v]) (R := fun res xw => res = .int .i64 8 ∧ Below w83.heap.size w83 xw) rfl rfl rfl (by kernel_rfl) (by kernel_rfl) (Tryd.call25 _ _) (psaN_any v w83 ) (by rintro e x ⟨rfl, hb98⟩; exact ⟨_, rfl, ⟨rfl, hb98⟩⟩)) ?_; clear h95
  rintro _ w97 a96 ⟨rfl, hb98⟩ h96
  have hz99 := hb98.size
  refine pk0 (v := .int .i64 8) h96 rfl fun a100 h100 => ?_; clear h96
  refine pk0 (v := .bool ((8 : Int) == 8)) h100 rfl fun a101 h101 => ?_; clear h100
  refine pk0 (v := .bool ((8 : Int) == 8)) h101 rfl fun a102 h102 => ?_; clear h101
  refine pk0 (v := .bool ((8 : Int) == 8)) h102 rfl fun a103 h103 => ?_; clear h102
  have hc104 : ((8 : Int) == 8) = true := by first | (simp; done) | (simp; omega) | exact beq_false_of_ne (by omega) | exact beq_iff_eq.2 (by omega)
  rw [hc104] at h103; clear hc104
  refine pk0 (v := v) h103 rfl fun a105 h105 => ?_; clear h103
  have hk108 := hk86.below hb87
  have hk109 := hk108.below hb98
  refine pw h105 rfl (op_call (args := #[pt N33 0, v]) (R := fun res xw => res = .int .i64 8 ∧ Below w97.heap.size w97 xw) rfl rfl rfl (by kernel_rfl) (by kernel_rfl) (Tryd.call25 _ _) (psaZ_any N33 v w97 hk109) (by rintro e x ⟨rfl, hb110⟩; exact ⟨_, rfl, ⟨rfl, hb110⟩⟩)) ?_; clear h105
  rintro _ w107 a106 ⟨rfl, hb110⟩ h106
  have hz111 := hb110.size
  refine pk0 (v := .int .i64 8) h106 rfl fun a112 h112 => ?_; clear h106
  refine pk0 (v := .bool ((8 : Int) == 8)) h112 rfl fun a113 h113 => ?_; clear h112
  refine pk0 (v := .bool ((8 : Int) == 8)) h113 rfl fun a114 h114 => ?_; clear h113
  refine pk0 (v := .bool ((8 : Int) == 8)) h114 rfl fun a115 h115 => ?_; clear h114
  have hc116 : ((8 : Int) == 8) = true := by first | (simp; done) | (simp; omega) | exact beq_false_of_ne (by omega) | exact beq_iff_eq.2 (by omega)
  rw [hc116] at h115; clear hc116
  refine pk0 (v := .pointer none) h115 rfl fun a117 h117 => ?_; clear h115
  refine pw h117 rfl (op_call (args := #[.pointer none]) (R := fun res xw => res = .int .i64 0 ∧ Below w107.heap.size w107 xw) rfl rfl rfl (by kernel_rfl) (by kernel_rfl) (Tryd.call22 _ _) (psyN_any  w107 ) (by rintro e x ⟨rfl, hb120⟩; exact ⟨_, rfl, ⟨rfl, hb120⟩⟩)) ?_; clear h117
  rintro _ w119 a118 ⟨rfl, hb120⟩ h118
  have hz121 := hb120.size
  have hk124 := hk109.below hb110
  have hk125 := hk124.below hb120
  refine pw h118 rfl (op_call (args := #[pt N33 0]) (R := fun res xw => res = .int .i64 0 ∧ Below w119.heap.size w119 xw) rfl rfl rfl (by kernel_rfl) (by kernel_rfl) (Tryd.call22 _ _) (psyZ_any N33 w119 hk125) (by rintro e x ⟨rfl, hb126⟩; exact ⟨_, rfl, ⟨rfl, hb126⟩⟩)) ?_; clear h118
  rintro _ w123 a122 ⟨rfl, hb126⟩ h122
  have hz127 := hb126.size
  refine pk0 (v := .int .i64 0) h122 rfl fun a128 h128 => ?_; clear h122
  refine pk0 (v := .pointer none) h128 rfl fun a129 h129 => ?_; clear h128
  refine pw h129 rfl (op_call (args := #[.pointer none]) (R := fun res xw => res = .int .i64 0 ∧ Below w123.heap.size w123 xw) rfl rfl rfl (by kernel_rfl) (by kernel_rfl) (Tryd.call29 _ _) (psiN_any  w123 ) (by rintro e x ⟨rfl, hb132⟩; exact ⟨_, rfl, ⟨rfl, hb132⟩⟩)) ?_; clear h129
  rintro _ w131 a130 ⟨rfl, hb132⟩ h130
  have hz133 := hb132.size
  refine pk0 (v := .int .i64 0) h130 rfl fun a134 h134 => ?_; clear h130
  have hk137 := hk125.below hb126
  have hk138 := hk137.below hb132
  refine pw h134 rfl (op_call (args := #[pt N33 0]) (R := fun res xw => res = .int .i64 0 ∧ Below w131.heap.size w131 xw) rfl rfl rfl (by kernel_rfl) (by kernel_rfl) (Tryd.call29 _ _) (psiZ_any N33 w131 hk138) (by rintro e x ⟨rfl, hb139⟩; exact ⟨_, rfl, ⟨rfl, hb139⟩⟩)) ?_; clear h134
  rintro _ w136 a135 ⟨rfl, hb139⟩ h135
  have hz140 := hb139.size
  refine pk0 (v := .int .i64 0) h135 rfl fun a141 h141 => ?_; clear h135
  refine pk0 (v := .pointer none) h141 rfl fun a142 h142 => ?_; clear h141
  refine pw h142 rfl (op_call (args := #[.pointer none]) (R := fun res xw => res = .slice none 0 0 ∧ Below w136.heap.size w136 xw) rfl rfl rfl (by kernel_rfl) (by kernel_rfl) (Tryd.call23 _ _) (pteN_any  w136 ) (by rintro e x ⟨rfl, hb145⟩; exact ⟨_, rfl, ⟨rfl, hb145⟩⟩)) ?_; clear h142
  rintro _ w144 a143 ⟨rfl, hb145⟩ h143
  have hz146 := hb145.size
  refine pk0 (v := .int .i64 0) h143 rfl fun a147 h147 => ?_; clear h143
  refine pk0 (v := .int .i64 0) h147 rfl fun a148 h148 => ?_; clear h147
  have hk151 := hk138.below hb139
  have hk152 := hk151.below hb145
  refine pw h148 rfl (op_call (args := #[pt N33 0]) (R := fun res xw => res = .slice none 0 0 ∧ Below w144.heap.size w144 xw) rfl rfl rfl (by kernel_rfl) (by kernel_rfl) (Tryd.call23 _ _) (pteZ_any N33 w144 hk152) (by rintro e x ⟨rfl, hb153⟩; exact ⟨_, rfl, ⟨rfl, hb153⟩⟩)) ?_; clear h148
  rintro _ w150 a149 ⟨rfl, hb153⟩ h149
  have hz154 := hb153.size
  refine pk0 (v := .int .i64 0) h149 rfl fun a155 h155 => ?_; clear h149
  refine pk0 (v := .int .i64 0) h155 rfl fun a156 h156 => ?_; clear h155
  refine pk0 (v := .bool ((0 : Int) == 0)) h156 rfl fun a157 h157 => ?_; clear h156
  refine pk0 (v := .bool ((0 : Int) == 0)) h157 rfl fun a158 h158 => ?_; clear h157
  refine pk0 (v := .bool ((0 : Int) == 0)) h158 rfl fun a159 h159 => ?_; clear h158
  have hc160 : ((0 : Int) == 0) = true := by first | (simp; done) | (simp; omega) | exact beq_false_of_ne (by omega) | exact beq_iff_eq.2 (by omega)
  rw [hc160] at h159; clear hc160
  have hB163 := hb_new hB21 hg34
  have hB164 := hb_call hB163 hb43
  have hB165 := hb_call hB164 hb52
  have hB166 := hb_call hB165 hb74
  have hB167 := hb_call hB166 hb87
  have hB168 := hb_call hB167 hb98
  have hB169 := hb_call hB168 hb110
  have hB170 := hb_call hB169 hb120
  have hB171 := hb_call hB170 hb126
  have hB172 := hb_call hB171 hb132
  have hB173 := hb_call hB172 hb139
  have hB174 := hb_call hB173 hb145
  have hB175 := hb_call hB174 hb153
  have hr176 := row_kept_new hr39 hg34
  have hr177 := row_kept_new hr176 (below_grown hb43)
  have hr178 := row_kept_new hr177 (below_grown hb52)
  have hr179 := row_kept_new hr178 (below_grown hb74)
  have hr180 := row_kept_new hr179 (below_grown hb87)
  have hr181 := row_kept_new hr180 (below_grown hb98)
  have hr182 := row_kept_new hr181 (below_grown hb110)
  have hr183 := row_kept_new hr182 (below_grown hb120)
  have hr184 := row_kept_new hr183 (below_grown hb126)
  have hr185 := row_kept_new hr184 (below_grown hb132)
  have hr186 := row_kept_new hr185 (below_grown hb139)
  have hr187 := row_kept_new hr186 (below_grown hb145)
  have hr188 := row_kept_new hr187 (below_grown hb153)
  refine pw h159 rfl (op_call (args := #[]) (R := fun res xw => res = .bool true ∧ Below w150.heap.size w150 xw) rfl rfl rfl (by kernel_rfl) (by kernel_rfl) (Tryd.call19 _ _) (awake13 w150 (ht.below hB175)) (by rintro e x ⟨rfl, h⟩; exact ⟨_, rfl, rfl, h⟩)) ?_; clear h159
  rintro _ w162 a161 ⟨rfl, hb189⟩ h161
  have hz190 := hb189.size
  refine pk0 (v := .bool true) h161 rfl fun a191 h191 => ?_; clear h161
  refine pk0 (v := .bool true) h191 rfl fun a192 h192 => ?_; clear h191
  refine pl_nil ?_
  refine co_then ?_
  refine wp_ret ?_
  refine co_ret1 h192 rfl rfl ?_
  have hB193 := hb_call hB175 hb189
  exact ⟨rfl, hB193⟩
end Go.Proofs.YtfiplhnplmadmaaDoor

/- The table as it is laid: what the row's condition gives the walks. Conditions: none. -/
namespace Go.Proofs.YtfiplhnplmadmaaDoor
open Go.RowKit

def laidList {H : Type} : List (String × DataW H) := [("catena/sum.halves", Rows.laid_catena_sum_halves)]
def halvesZ : List Int := [0, 498536548, 997073096, 651767980, 1994146192, 1802195444, 1303535960, 1342533948, 3988292384, 4027552580, 3604390888, 3412177804, 2607071920, 2262029012, 2685067896, 3183342108]
theorem halves_at : ∀ i, i < 16 → halvesZ.getD i 0 = ((lfn 4 i : Nat) : Int) := by decide
theorem tab_of_laid {W : World} (h : laidMetH Tryd.prog laidList W) : Tab W := by
  rw [MakeChecks.laidMetH_plain _ _ _ (by kernel_rfl)] at h
  have hg : Tryd.prog.globalNamed "catena/sum.halves" = some 0 := by kernel_rfl
  have ht := Lib.tabIs_of_head (P := Tryd.prog) (W := W) (name := "catena/sum.halves") (k := .u32) (zs := halvesZ) (rest := []) (g := 0) (t := 111) (e := 94) (n := 16) hg (by kernel_rfl) Tryd.underlying111 Tryd.underlying94 (by kernel_rfl) (by kernel_rfl) h
  intro i hi
  have := ht.cell hg i (by simpa [halvesZ] using hi)
  rw [halves_at i hi] at this
  exact this
theorem door_met (os : Os) (args : Array Value) : laidMetH Tryd.prog laidList ((World.doorLaid Tryd.prog 400 os).forCall (fun _ _ => 0) ⟨#[], args, []⟩).memory :=
  laidMetH_of_parts3 (fuel := 8) (laidMet_of_run' 8 (by kernel_rfl) (by kernel_rfl)) (by kernel_rfl) (by kernel_rfl)
end Go.Proofs.YtfiplhnplmadmaaDoor
