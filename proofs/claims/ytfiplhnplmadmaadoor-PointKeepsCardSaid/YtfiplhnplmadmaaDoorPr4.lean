/- Put together: PntHPq, PntWPq, PntIPq, PntXPq, PntVPq, PntYPq, PntMPq, PntNPq, PntKPq, OpenPq, PntLPq, SumLaidPq. Conditions: as each says. -/
import Derived.Test.YtfiplhnplmadmaaDoorPr3
import Derived.Test.YtfiplhnplmadmaaDoorPr1
import Derived.ProofKit
import Derived.Deep.Slices
import Derived.Deep.Fields
import Derived.Test.YtfiplhnplmadmaaDoorPr2
import Derived.Test.YtfiplhnplmadmaaDoorTie
import Derived.LaidMore
import Derived.Lib.LaidTab
import Derived.Stop.Joined
/- Package point: New, Save on a point. Conditions: at most 500 calls. -/
namespace Go.Proofs.YtfiplhnplmadmaaDoor
open Go.RowKit Go.PlainAid Go.Shelf
set_option linter.unusedVariables false
section
variable {base d m p : Nat} {L : List ByteArray} {sure cp : Nat} {A : List WSeg} {w x : World}
theorem WSG.drop {s : DkS} {first : Int} {A : List WSeg} {old : Int → Option FileM} (h : WSG s first A [] old []) : WSt (dropF (fun k => decide (first ≤ k)) s) first A [] :=
  ⟨fun k => by
    show (if decide (first ≤ k) = true then s.fm k else none) = _
    by_cases hl : first ≤ k
    · rw [if_pos (decide_eq_true hl), h.on k, if_pos hl]
    · rw [if_neg (by rw [decide_eq_false hl]; decide)]; unfold flW; rw [if_neg hl], h.ps, h.ok, h.tx⟩
theorem DkI.drop {s : DkS} (h : DkI s m) (hp : s.ps = []) (Q : Int → Bool) : DkI (dropF Q s) m := by
  have hg : ∀ k, getF (dropF Q s).fm k = if Q k = true then getF s.fm k else mz := fun k => by
    unfold getF dropF
    by_cases hq : Q k = true
    · simp only [hq, if_true]
    · simp [hq]
  refine ⟨fun k => ?_, fun q hq => ?_, fun k => ?_, fun k => ?_, h.tot, h.pl, fun k hk => ?_⟩
  · rw [hg]; split
    · exact h.len k
    · show ((0 : Nat) : Int) ≤ _; omega
  · have : q ∈ s.ps := hq
    rw [hp] at this; cases this
  · have h1 := h.sum k
    show _ + sumK s.ps k = _
    rw [hp] at h1 ⊢
    rw [hg]; split
    · exact h1
    · rfl
  · rw [hg]; split
    · exact h.saf k
    · exact Int.le_refl 0
  · have hq : Q k = true ∧ (s.fm k).isSome = true := by
      have hk2 : (if Q k = true then s.fm k else none).isSome = true := hk
      by_cases hq : Q k = true
      · rw [if_pos hq] at hk2; exact ⟨hq, hk2⟩
      · rw [if_neg hq] at hk2; cases hk2
    rcases h.cov k hq.2 with h1 | ⟨q, h1, h2⟩
    · left; rw [hg, if_pos hq.1]; exact h1
    · rw [hp] at h1; cases h1
def sgA (first : Int) (A : List WSeg) (k : Int) : WSeg := if first ≤ k then (A[(k - first).toNat]?).getD ⟨[], ⟨#[]⟩⟩ else ⟨[], ⟨#[]⟩⟩
theorem sgA_ok {first : Int} {A : List WSeg} (h : OkA A) (k : Int) : SegOk (sgA first A k) := by
  have h0 : SegOk ⟨[], ⟨#[]⟩⟩ := segOk_whole (fun x hx => by cases hx)
  unfold sgA; split
  · cases hA : A[(k - first).toNat]? with
    | none => exact h0
    | some y => exact h y (List.mem_of_getElem? hA)
  · exact h0
theorem txt_mem {A : List WSeg} {y : WSeg} (h : y ∈ A) : y.T.length ≤ (txtA A).length := by
  obtain ⟨l1, l2, rfl⟩ := List.append_of_mem h
  unfold txtA
  rw [List.flatMap_append, List.flatMap_cons, List.length_append, List.length_append]; omega
theorem WSt.sgs {s : DkS} {first : Int} {A : List WSeg} {xs : List ByteArray} (h : WSt s first A xs) (hI : DkI s m) (hm : m ≤ 900) (ht : (txtA A).length + xs.length ≤ m) :
    (∀ k, SegOk (sgA first (xs.foldl appA A) k) ∧ datF s.fm k = (sgA first (xs.foldl appA A) k).b ∧ (sgA first (xs.foldl appA A) k).b.size ≤ 1000000000) ∧ ∀ k, (sgA first (xs.foldl appA A) k).T.length ≤ 1000000 := by
  have hb : ∀ k, (getF s.fm k).1 = (sgA first (xs.foldl appA A) k).b.data.toList := fun k => by
    unfold getF; rw [h.on k]; unfold flW sgA
    by_cases hl : first ≤ k
    · rw [if_pos hl, if_pos hl]
      cases hA : (xs.foldl appA A)[(k - first).toNat]? with
      | none => rfl
      | some y => simp [bytA, hA]
    · rw [if_neg hl, if_neg hl]; rfl
  refine ⟨fun k => ⟨sgA_ok (h.ok.run h.tx) k, ?_, ?_⟩, fun k => ?_⟩
  · unfold datF; rw [hb]
  · have h1 := hI.len k
    rw [hb, list_len] at h1
    omega
  · unfold sgA; split
    · cases hA : (xs.foldl appA A)[(k - first).toNat]? with
      | none => show 0 ≤ _; omega
      | some y =>
        have h1 := txt_mem (List.mem_of_getElem? hA)
        rw [txt_run, List.length_append] at h1
        show y.T.length ≤ _; omega
    · show 0 ≤ _; omega
theorem WlO.bg {s : DkS} {first : Int} {A : List WSeg} {xs : List ByteArray} (hX : WlX base w d m first A xs s) (hm : m ≤ 700) (hf : first ≤ 900000000) (ht : Tab w) (hb : 0 < base) : BgO base d (xs.foldl appA A).length m (first + ((xs.foldl appA A).length : Int)) s [] s.fm s.ps w := by
  obtain ⟨h1, h2, h3, h4, h5, h6, h7, h8, h9⟩ := hX
  have hl := run_len xs A
  exact ⟨h1, h2.next, h3, ht, hb, by omega, by omega, by omega, Nat.zero_le _⟩
/-- What begin leaves, as a log. -/
theorem wl_of {s : DkS} {next : Int} {c' n : Nat} {l : List ByteArray} (hW : WSt s next ((hdP n :: l.map tT).foldl appA []) []) (hO : DObj base w d c' s) (hI : DkI s (m + l.length + 1)) (hb0 : 0 ≤ s.boots) (hb1 : s.boots ≤ (m : Int) + 1) (h1 : 1 ≤ next) (h2 : next ≤ 1000000000) : WlO base w d (m + l.length + 1) next ((hdP n :: l.map tT).foldl appA []) [] := by
  have hk := hO.tight (hW.on.keys)
  rw [segN_len] at hk
  have hl := run_len (hdP n :: l.map tT) []
  rw [List.length_cons, List.length_map, List.length_nil] at hl
  have ht := txt_run (hdP n :: l.map tT) []
  refine ⟨s, hk, hW, hI, hb0, by omega, (by first | omega | (simp only [List.length_nil]; omega)), ?_, h1, h2⟩
  rw [ht]; simp [txtA] <;> omega
set_option maxRecDepth 100000 in
set_option maxHeartbeats 4000000 in
theorem ptNew (w : World) (h : WlO base w d 0 1 [] []) (ht : Tab w) (hb : 0 < base) : Calls Tryd.prog 20 #[pt d 0] w fun e w' => ∃ p : Nat, e = .returned (.tuple #[pt p 0, .int .i64 0]) ∧ PtO base w' d 1 p [] 0 0 ([hdP 0].foldl appA []) ∧ ButD base w w' := by
  obtain ⟨s, hX⟩ := h
  have hX : WlX base w d 0 1 [] [] s := hX
  have HX := Lib.hid hX; have HT := Lib.hid ht
  have hn : ∀ k, s.fm k = none := fun k => by rw [hX.2.1.on k]; unfold flW; simp
  have hps : s.ps = [] := hX.2.1.ps
  have HN := Lib.hid hn; have HPS := Lib.hid hps
  clear hX ht hn hps
  go_enter Tryd.func20, Tryd.ntmps20
  simp only [pt]
  go_wp2_with fail
  refine (tFiles w HX.out.1 (by decide)).mono ?_
  rintro e w1 ⟨ys, u, rfl, hr1, hK1, -, hD1, hb1⟩
  have hy : ys = [] := List.eq_nil_iff_forall_not_mem.2 (fun k hk => by have h9 := (hK1.2 k).1 hk; rw [HN.out k] at h9; cases h9)
  subst hy
  obtain ⟨ua, uc, rfl, -, -⟩ := row_view hr1
  have HD1 := Lib.hid hD1; have HB1 := Lib.hid hb1
  clear hr1 hK1 hD1 hb1
  go_wp2_with fail
  have hB : BgO base d 0 0 1 s [] s.fm s.ps w1 := (WlO.bg (m := 0) (first := 1) (A := []) (xs := []) (show WlX base w1 d 0 1 [] [] s from ⟨HD1.out, HX.out.2⟩) (by decide) (by decide) (tab_butD HT.out HB1.out hb) hb)
  refine (begin_any (.slice none 0 0) [] w1 hB (fun X _ => ⟨none, 0, rfl, Nat.le_refl _, by decide, fun _ => ⟨rfl, rfl⟩, fun j hj => absurd hj (by simp)⟩) (by decide) (fun z hz => by cases hz)).mono ?_
  rintro e w2 ⟨N, c', s', old', rfl, hW2, hG2, hD2, hc2, hI2, hbo2, hb2, hol2⟩
  have hold := hol2 HPS.out (fun k _ => HN.out k)
  have hbo := HX.out.2.2.2
  have hw2 := wl_of (m := 0) (hG2.toW hold) hD2 hI2 (by rw [hbo2]; exact hbo.1) (by rw [hbo2]; have := hbo.2.1; omega) (by decide) (by decide)
  have hq2 : txtA ((hdP ([] : List ByteArray).length :: ([] : List ByteArray).map tT).foldl appA []) = [hdP 0] := by rw [txt_run]; rfl
  have HQ2 := Lib.hid hq2
  have HW2 := Lib.hid hW2; have HO2 := Lib.hid hw2; have HB2 := Lib.hid (butD_tr HB1.out hb2)
  clear hW2 hG2 hD2 hc2 hI2 hbo2 hb2 hol2 hold hbo hw2 hq2 hB
  simp only [pt]
  go_wp2
  have hg1 := World.grownBy_alloc w2 (.cells #[.pointer (some ⟨d, 0, none⟩), .int .i64 1, .pointer (some ⟨N, 0, none⟩)] 59) none
  have hg2 := World.grownBy_alloc (w2.alloc (.cells #[.pointer (some ⟨d, 0, none⟩), .int .i64 1, .pointer (some ⟨N, 0, none⟩)] 59)) (.cells #[.bool true, .pointer (some ⟨d, 0, none⟩), .int .i64 1, .pointer (some ⟨N, 0, none⟩)] 61) none
  have hP := World.alloc_heap_new (w2.alloc (.cells #[.pointer (some ⟨d, 0, none⟩), .int .i64 1, .pointer (some ⟨N, 0, none⟩)] 59)) (.cells #[.bool true, .pointer (some ⟨d, 0, none⟩), .int .i64 1, .pointer (some ⟨N, 0, none⟩)] 61)
  rw [World.size_alloc] at hP
  go_ret2
  exact ⟨_, rfl, ⟨1, [], N, hP, (HW2.out.kept hg1 (fun e => nomatch e)).kept hg2 (fun e => nomatch e), (HO2.out.new hg1).new hg2, HQ2.out, rfl, Nat.le_refl _, Nat.le_refl _, by decide, (by have h1 := HX.out.1.lo; have h2 := HB2.out.size; omega)⟩, butD_tr (butD_tr HB2.out (But.of_below (grown_below hg1))) (But.of_below (grown_below hg2))⟩
set_option maxRecDepth 100000 in
set_option maxHeartbeats 8000000 in
theorem ptSave (v : Value) (l : List ByteArray) (w : World) (h : PtO base w d m p L sure cp A) (hs : ∀ X, ButD base w X → SliceOf strE 1 X v l) (hl : l.length + m ≤ 500) (hsz : ∀ z ∈ l, z.size ≤ 60000) (ht : Tab w) (hb : 0 < base) : Calls Tryd.prog 25 #[pt p 0, v] w fun e w' => e = .returned (.int .i64 0) ∧ PtO base w' d (m + l.length + 1) p l l.length l.length ((hdP l.length :: l.map tT).foldl appA []) ∧ ButP base p w w' := by
  have hmf : ∀ (fn : Fn) (first cap : Array Value) (w : World), (Instr.makeFunc fn first cap).run Tryd.prog w = .ok (.func fn first cap) w := fun _ _ _ _ => rfl
  obtain ⟨first, xs, N, h1, h2, h3, h4, h5, h6, h7, h8⟩ := h
  obtain ⟨s, hX⟩ := h3
  have hX : WlX base w d m first A xs s := hX
  have H1 := Lib.hid h1; have H2 := Lib.hid h2; have HX := Lib.hid hX; have HT := Lib.hid ht; have HS := Lib.hid hs; have HSZ := Lib.hid hsz; have HL := Lib.hid hl; have H8 := Lib.hid h8
  have hle : l.length ≤ 500 := by omega
  clear h1 h2 hX ht hs hsz hl h4 h5 h6 h7 h8
  go_enter Tryd.func25, Tryd.ntmps25
  simp only [pt]
  go_wp2_with fail
  refine (pzero_any w H1.out).mono ?_
  rintro e w1 ⟨rfl, rfl⟩
  obtain ⟨va, vc, rfl, -⟩ := HS.out w (But.refl _ _)
  go_wp2_with fail
  go_loopg [14] (l.length + 1) (fun g s14 wr => ∃ i : Nat, s14 = .int .i64 i ∧ i ≤ l.length ∧ l.length + 1 ≤ i + g ∧ w = wr)
  case atStart => exact ⟨0, rfl, by omega, by omega, rfl⟩
  case round =>
    obtain ⟨i, rfl, hi, hg, rfl⟩ := hrel
    by_cases hlt : i < l.length
    · obtain ⟨va', vc', e, -, -, -, hat⟩ := HS.out w (But.refl _ _)
      cases e
      obtain ⟨gb, go, rfl, hr⟩ := hat i hlt
      have hz1 := HSZ.out l[i] (List.getElem_mem hlt)
      obtain ⟨z, hzz⟩ : ∃ z, z = l[i] := ⟨_, rfl⟩
      rw [← hzz] at hz1 hr
      have hg2 : w.cell? ⟨gb, go + i, none⟩ = some (.string z) := by
        have h9 := hr 0 (.string z) rfl
        rw [Nat.mul_one] at h9
        exact h9
      have hsq : decide ((65536 : Int) ≤ (z.size : Int)) = false := decide_eq_false (by omega)
      have hszz : z.size ≤ 9223372036854775000 := Nat.le_trans hz1 (by decide)
      have HLT := Lib.hid hlt
      clear hat hr hzz hz1
      go_wp2
      go_roundg (gk - 1)
      case rel => exact ⟨i + 1, by go_num, HLT.out, by omega, rfl⟩
      case measure => omega
    · have hq : i = l.length := by omega
      subst hq
      have c2 := H1.out.cell (k := 2) rfl
      have hlg := HX.out.2.1.logs
      obtain ⟨k1, k2⟩ := HX.out.2.1.sgs HX.out.2.2.1 (by have := HL.out; omega) HX.out.2.2.2.2.2.2.1
      have hrl := run_len xs A
      have hxl := HX.out.2.2.2.2.2.1
      have hLL := HL.out
      have hDs : DsO base d (xs.foldl appA A).length s (sgA first (xs.foldl appA A)) w := ⟨HX.out.1, by omega, k1, k2, HT.out, hb⟩
      have h8 := H8.out
      have hfb : 1 ≤ first ∧ first ≤ 900000000 := ⟨HX.out.2.2.2.2.2.2.2.1, by omega⟩
      have HLG := Lib.hid hlg; have HDS := Lib.hid hDs; have HFB := Lib.hid hfb; have HRL : Hid ((xs.foldl appA A).length ≤ m) := Lib.hid (by omega)
      obtain ⟨nA, hnA⟩ : ∃ n, n = (xs.foldl appA A).length := ⟨_, rfl⟩
      have hnm : nA ≤ 500 := by have := HRL.out; omega
      have HNA := Lib.hid hnA
      clear hnA hlg hDs k1 k2 hrl hxl h8
      go_wp2_with fail
      have lp := H1.out.lt
      have hz9 : -9223372036854775808 ≤ first + (nA : Int) ∧ first + (nA : Int) ≤ 9223372036854775807 := by omega
      go_region_law (go_simp; go_at_call 43; first
        | (refine (psegs_any p N first _ _ (HDS.out.below (grown_below (drew_grown _))) HLG.out (by have := HFB.out; omega) (H1.out.below (grown_below (drew_grown _)))).mono ?_; rintro e w2 ⟨u2, rfl, hr2, h9, hb9⟩; rw [← HNA.out] at hr2; obtain ⟨ua, uc, rfl, -, -⟩ := row_view hr2; have q2 := (blkD (H1.out.below (grown_below (drew_grown _))) (by decide) hb9).cell (k := 2) rfl; have l2 := (blkD (H1.out.below (grown_below (drew_grown _))) (by decide) hb9).lt; have H9 := Lib.hid h9; have HB9 := Lib.hid (butD_tr (But.of_below (grown_below (drew_grown w))) hb9); clear h9 hb9 hr2)
        | (have hgw := (World.grownBy_alloc w (.cells #[.int .i64 0] 3) none).trans (drew_grown _); refine (psegs_any p N first _ _ (HDS.out.below (grown_below hgw)) HLG.out (by have := HFB.out; omega) (H1.out.below (grown_below hgw))).mono ?_; rintro e w2 ⟨u2, rfl, hr2, h9, hb9⟩; rw [← HNA.out] at hr2; obtain ⟨ua, uc, rfl, -, -⟩ := row_view hr2
           have hbx : Blk (w.alloc (.cells #[.int .i64 0] 3)).drew w.heap.size 3 #[.int .i64 0] := Blk.kept (World.alloc_heap_new w _) (drew_grown _) (fun e => nomatch e)
           have hbx2 := blkD hbx (by decide) hb9; have q2 := (blkD (H1.out.below (grown_below hgw)) (by decide) hb9).cell (k := 2) rfl; have k0 := hbx2.cell (k := 0) rfl; have f0 := hbx2.frozen 0; have HX2 := Lib.hid hbx2
           have H9 := Lib.hid h9; have HB9 := Lib.hid (butD_tr (But.of_below (grown_below hgw)) hb9); clear h9 hb9 hr2 hbx hbx2 hgw))
      all_goals (have hwr : IntKind.i64.wrap (first + (nA : Int)) = first + (nA : Int) := IntWalk.i64_in _ hz9)
      all_goals (try rw [hwr])
      all_goals (clear q2 lp c2 hwr)
      all_goals (try clear l2)
      all_goals (try clear k0 f0)
      all_goals (first
        | (obtain ⟨W3, hW3⟩ : ∃ W3, w2.alloc (.cells #[.int .i64 (first + (nA : Int))] 3) = W3 := ⟨_, rfl⟩
           rw [hW3]
           have hgA := World.grownBy_alloc w2 (.cells #[.int .i64 (first + (nA : Int))] 3) none
           have hx3 : Boxed (w2.alloc (.cells #[.int .i64 (first + (nA : Int))] 3)) w2.heap.size 3 (.int .i64 (first + (nA : Int))) := Boxed.new w2 _ _
           obtain ⟨bn, hbn⟩ : ∃ bn, bn = w2.heap.size := ⟨_, rfl⟩
           rw [← hbn] at hx3 ⊢
           rw [hW3] at hgA hx3
           have HX3 := Lib.hid hx3; have HO3 := Lib.hid (H9.out.obj.new hgA); have HB3 := Lib.hid (butD_tr HB9.out (But.of_below (grown_below hgA)))
           clear hW3 hgA hx3 hbn)
        | (obtain ⟨W3, hW3⟩ : ∃ W3, w2.setCell ⟨w.heap.size, 0, none⟩ (.int .i64 (first + (nA : Int))) = W3 := ⟨_, rfl⟩
           rw [hW3]
           have hx3 := setCell_blk HX2.out 0 (.int .i64 (first + (nA : Int)))
           have hx4 : Boxed (w2.setCell ⟨w.heap.size, 0, none⟩ (.int .i64 (first + (nA : Int)))) w.heap.size 3 (.int .i64 (first + (nA : Int))) := hx3
           have ho3 := H9.out.obj.at HX2.out (by decide) (grown_setCell _ w.heap.size 0 (.int .i64 (first + (nA : Int))))
           have hb3 := HB9.out.setCell (p := ⟨w.heap.size, 0, none⟩) (fun hp => absurd hp (by simp)) (.int .i64 (first + (nA : Int)))
           obtain ⟨bn, hbn⟩ : ∃ bn, bn = w.heap.size := ⟨_, rfl⟩
           rw [hW3] at hx4 ho3 hb3
           rw [← hbn] at hx4 ⊢
           have HX3 := Lib.hid hx4; have HO3 := Lib.hid ho3; have HB3 := Lib.hid hb3
           clear hW3 hx3 hx4 ho3 hb3 hbn HX2))
      all_goals (have k1 : W3.cell? ⟨p, 1, none⟩ = some (.pointer (some ⟨d, 0, none⟩)) := (blkD H1.out (by decide) HB3.out).cell (k := 1) rfl; have k2 := HX3.out.cell; have l1 := (blkD H1.out (by decide) HB3.out).lt; have l2 := HX3.out.lt)
      all_goals (have hB3 := WlO.bg (m := m) (show WlX base W3 d m first A xs s from ⟨HO3.out, HX.out.2⟩) (by omega) HFB.out.2 (tab_butD HT.out HB3.out hb) hb; rw [← HNA.out] at hB3; have HBG := Lib.hid hB3; clear hB3)
      all_goals (have hs3 := HB3.out.size)
      all_goals (go_wp2_with fail)
      all_goals (go_region_law (go_simp; go_at_call 37; first
        | (refine (begin_any _ l _ (HBG.out.below (grown_below (drew_grown _))) (fun X hX => HS.out X (butD_tr (butD_tr HB3.out (But.of_below (grown_below (drew_grown _)))) hX)) (by omega) HSZ.out).mono ?_; rintro e w4 ⟨N2, c', s', old', rfl, hW4, hG4, hD4, hc4, hI4, hbo4, hb4, -⟩; simp only [pt]; have HW4 := Lib.hid hW4; have HG4 := Lib.hid hG4; have HD4 := Lib.hid hD4; have HI4 := Lib.hid hI4; have HBO4 := Lib.hid hbo4; have HC4 := Lib.hid hc4; have HB34 := Lib.hid (butD_tr (But.of_below (grown_below (drew_grown W3))) hb4); clear hW4 hG4 hD4 hc4 hI4 hbo4 hb4)
        | (have hgw := (World.grownBy_alloc W3 (.cells #[.pointer none, .int .i64 0, .pointer none] 59) none).trans (drew_grown _); refine (begin_any _ l _ (HBG.out.below (grown_below hgw)) (fun X hX => HS.out X (butD_tr (butD_tr HB3.out (But.of_below (grown_below hgw))) hX)) (by omega) HSZ.out).mono ?_; rintro e w4 ⟨N2, c', s', old', rfl, hW4, hG4, hD4, hc4, hI4, hbo4, hb4, -⟩; simp only [pt]
           have hbx : Blk (W3.alloc (.cells #[.pointer none, .int .i64 0, .pointer none] 59)).drew W3.heap.size 59 #[.pointer none, .int .i64 0, .pointer none] := Blk.kept (World.alloc_heap_new W3 _) (drew_grown _) (fun e => nomatch e)
           have hbx2 := blkD hbx (by decide) hb4; have g0 := hbx2.cell (k := 0) rfl; have g1 := hbx2.cell (k := 1) rfl; have g2 := hbx2.cell (k := 2) rfl; have f0 := hbx2.frozen 0; have f1 := hbx2.frozen 1; have f2 := hbx2.frozen 2; have HX4 := Lib.hid hbx2
           have HW4 := Lib.hid hW4; have HG4 := Lib.hid hG4; have HD4 := Lib.hid hD4; have HI4 := Lib.hid hI4; have HBO4 := Lib.hid hbo4; have HC4 := Lib.hid hc4; have HB34 := Lib.hid (butD_tr (But.of_below (grown_below hgw)) hb4); clear hW4 hG4 hD4 hc4 hI4 hbo4 hb4 hbx hbx2 hgw)))
      all_goals (try clear k1 k2 l1 l2)
      all_goals (first
        | (obtain ⟨W5, hW5⟩ : ∃ W5, w4.alloc (.cells #[.pointer (some ⟨d, 0, none⟩), .int .i64 (first + (nA : Int)), .pointer (some ⟨N2, 0, none⟩)] 59) = W5 := ⟨_, rfl⟩
           rw [hW5]
           have hgA := World.grownBy_alloc w4 (.cells #[.pointer (some ⟨d, 0, none⟩), .int .i64 (first + (nA : Int)), .pointer (some ⟨N2, 0, none⟩)] 59) none
           have hx5 := World.alloc_heap_new w4 (.cells #[.pointer (some ⟨d, 0, none⟩), .int .i64 (first + (nA : Int)), .pointer (some ⟨N2, 0, none⟩)] 59)
           obtain ⟨bl, hbl⟩ : ∃ bl, bl = w4.heap.size := ⟨_, rfl⟩
           rw [← hbl] at hx5 ⊢
           rw [hW5] at hgA hx5
           have HL5 : Hid (Blk W5 bl 59 #[.pointer (some ⟨d, 0, none⟩), .int .i64 (first + (nA : Int)), .pointer (some ⟨N2, 0, none⟩)]) := Lib.hid hx5
           have HO5 := Lib.hid (HD4.out.new hgA); have HN5 := Lib.hid (HW4.out.kept hgA (fun e => nomatch e)); have HB35 := Lib.hid (butD_tr HB34.out (But.of_below (grown_below hgA)))
           clear hW5 hgA hx5 hbl)
        | (have hnN : N2 ≠ W3.heap.size := fun e => by have h1 := HW4.out; rw [e] at h1; exact absurd (Option.some.inj (h1.symm.trans HX4.out)) (by simp)
           have q0 := setCell_blk HX4.out 0 (.pointer (some ⟨d, 0, none⟩))
           have q1 := setCell_blk q0 1 (.int .i64 (first + (nA : Int)))
           have q2 := setCell_blk q1 2 (.pointer (some ⟨N2, 0, none⟩))
           have n1 := HW4.out.kept (grown_setCell _ W3.heap.size 0 (.pointer (some ⟨d, 0, none⟩))) (fun e => hnN (Option.some.inj e).symm)
           have n2 := n1.kept (grown_setCell _ W3.heap.size 1 (.int .i64 (first + (nA : Int)))) (fun e => hnN (Option.some.inj e).symm)
           have n3 := n2.kept (grown_setCell _ W3.heap.size 2 (.pointer (some ⟨N2, 0, none⟩))) (fun e => hnN (Option.some.inj e).symm)
           have o1 := HD4.out.at HX4.out (by decide) (grown_setCell _ W3.heap.size 0 (.pointer (some ⟨d, 0, none⟩)))
           have o2 := o1.at q0 (by decide) (grown_setCell _ W3.heap.size 1 (.int .i64 (first + (nA : Int))))
           have o3 := o2.at q1 (by decide) (grown_setCell _ W3.heap.size 2 (.pointer (some ⟨N2, 0, none⟩)))
           have b3 := ((HB34.out.setCell (p := ⟨W3.heap.size, 0, none⟩) (fun hp => absurd hp (by simp)) (.pointer (some ⟨d, 0, none⟩))).setCell (p := ⟨W3.heap.size, 1, none⟩) (fun hp => absurd hp (by simp)) (.int .i64 (first + (nA : Int)))).setCell (p := ⟨W3.heap.size, 2, none⟩) (fun hp => absurd hp (by simp)) (.pointer (some ⟨N2, 0, none⟩))
           obtain ⟨W5, hW5⟩ : ∃ W5, (((w4.setCell ⟨W3.heap.size, 0, none⟩ (.pointer (some ⟨d, 0, none⟩))).setCell ⟨W3.heap.size, 1, none⟩ (.int .i64 (first + (nA : Int)))).setCell ⟨W3.heap.size, 2, none⟩ (.pointer (some ⟨N2, 0, none⟩))) = W5 := ⟨_, rfl⟩
           rw [hW5]
           obtain ⟨bl, hbl⟩ : ∃ bl, bl = W3.heap.size := ⟨_, rfl⟩
           rw [hW5] at q2 n3 o3 b3
           rw [← hbl] at q2 ⊢
           have HL5 : Hid (Blk W5 bl 59 #[.pointer (some ⟨d, 0, none⟩), .int .i64 (first + (nA : Int)), .pointer (some ⟨N2, 0, none⟩)]) := Lib.hid q2
           have HO5 := Lib.hid o3; have HN5 := Lib.hid n3; have HB35 := Lib.hid b3
           clear hW5 hbl q0 q1 q2 n1 n2 n3 o1 o2 o3 b3 hnN HX4 g0 g1 g2 f0 f1 f2))
      all_goals (have HX5 := Lib.hid (boxD HX3.out (by decide) HB35.out); have HP5 := Lib.hid (blkD (blkD H1.out (by decide) HB3.out) (by decide) HB35.out); have HB5 := Lib.hid (butD_tr HB3.out HB35.out))
      all_goals (have c0 := HL5.out.cell (k := 0) rfl; have c1 := HL5.out.cell (k := 1) rfl; have c2 := HL5.out.cell (k := 2) rfl; have k1 : W5.cell? ⟨p, 1, none⟩ = some (.pointer (some ⟨d, 0, none⟩)) := HP5.out.cell (k := 1) rfl; have k2 := HP5.out.cell (k := 2) rfl; have k3 : W5.cell? ⟨p, 3, none⟩ = some (.pointer (some ⟨N, 0, none⟩)) := HP5.out.cell (k := 3) rfl; have f1 := HP5.out.frozen 1; have f2 := HP5.out.frozen 2; have f3 := HP5.out.frozen 3)
      all_goals (go_wp2_with fail)
      all_goals (clear c0 c1 c2 k1 k2 k3 f1 f2 f3)
      all_goals (have q0 := setCell_blk HP5.out 1 (.pointer (some ⟨d, 0, none⟩)); have q1 := setCell_blk q0 2 (.int .i64 (first + (nA : Int))); have q2 := setCell_blk q1 3 (.pointer (some ⟨N2, 0, none⟩)))
      all_goals (have hnN : N2 ≠ p := fun e => by have h1 := HN5.out; rw [e] at h1; exact absurd (Option.some.inj (h1.symm.trans HP5.out)) (by simp))
      all_goals (have hnB : bn ≠ p := fun e => by have h1 := Boxed.blkW HX5.out; rw [e] at h1; exact absurd (Option.some.inj (h1.symm.trans HP5.out)) (by simp))
      all_goals (have n1 := HN5.out.kept (grown_setCell _ p 1 (.pointer (some ⟨d, 0, none⟩))) (fun e => hnN (Option.some.inj e).symm); have n2 := n1.kept (grown_setCell _ p 2 (.int .i64 (first + (nA : Int)))) (fun e => hnN (Option.some.inj e).symm); have n3 := n2.kept (grown_setCell _ p 3 (.pointer (some ⟨N2, 0, none⟩))) (fun e => hnN (Option.some.inj e).symm))
      all_goals (have x1 := (Boxed.blkW HX5.out).kept (grown_setCell _ p 1 (.pointer (some ⟨d, 0, none⟩))) (fun e => hnB (Option.some.inj e).symm); have x2 := x1.kept (grown_setCell _ p 2 (.int .i64 (first + (nA : Int)))) (fun e => hnB (Option.some.inj e).symm); have x3 := x2.kept (grown_setCell _ p 3 (.pointer (some ⟨N2, 0, none⟩))) (fun e => hnB (Option.some.inj e).symm))
      all_goals (have o1 := HO5.out.at HP5.out (by decide) (grown_setCell _ p 1 (.pointer (some ⟨d, 0, none⟩))); have o2 := o1.at q0 (by decide) (grown_setCell _ p 2 (.int .i64 (first + (nA : Int)))); have o3 := o2.at q1 (by decide) (grown_setCell _ p 3 (.pointer (some ⟨N2, 0, none⟩))))
      all_goals (have b4 := (((butP_of (p := p) HB5.out).setCell (p := ⟨p, 1, none⟩) (fun _ => .inr rfl) (.pointer (some ⟨d, 0, none⟩))).setCell (p := ⟨p, 2, none⟩) (fun _ => .inr rfl) (.int .i64 (first + (nA : Int)))).setCell (p := ⟨p, 3, none⟩) (fun _ => .inr rfl) (.pointer (some ⟨N2, 0, none⟩)))
      all_goals (obtain ⟨W6, hW6⟩ : ∃ W6, (((W5.setCell ⟨p, 1, none⟩ (.pointer (some ⟨d, 0, none⟩))).setCell ⟨p, 2, none⟩ (.int .i64 (first + (nA : Int)))).setCell ⟨p, 3, none⟩ (.pointer (some ⟨N2, 0, none⟩))) = W6 := ⟨_, rfl⟩)
      all_goals (rw [hW6] at q2 n3 x3 o3 b4 ⊢)
      all_goals (have HP6 := Lib.hid q2; have HN6 := Lib.hid n3; have HX6 := Lib.hid x3; have HO6 := Lib.hid o3; have HB6 := Lib.hid b4)
      all_goals (clear hW6 q0 q1 q2 n1 n2 n3 x1 x2 x3 o1 o2 o3 b4 hnN hnB)
      all_goals (refine (dropS_any bn (first + (nA : Int)) W6 HO6.out (by have := HC4.out; omega) (by rw [HG4.out.ps]; rfl) HX6.out).mono ?_; rintro e w7 ⟨rfl, hD7, hb7⟩; have HD7 := Lib.hid hD7; have HB7 := Lib.hid hb7; clear hD7 hb7)
      all_goals (go_wp2)
      all_goals (go_ret)
      all_goals (have hbo := HX.out.2.2.2; have hbe := HBO4.out; have h8 := H8.out)
      all_goals (exact ⟨rfl, ⟨first + (nA : Int), [], N2, blkD HP6.out (by decide) HB7.out, blkD HN6.out (by decide) HB7.out, wl_of HG4.out.drop HD7.out (HI4.out.drop HG4.out.ps _) (by show 0 ≤ s'.boots; omega) (by show s'.boots ≤ _; omega) (by omega) (by omega), by rw [txt_run, List.take_length]; rfl, by rw [List.drop_length]; rfl, Nat.le_refl _, Nat.le_refl _, by omega, h8.2⟩, butP_tr HB6.out HB7.out⟩)
theorem ptFiles (w : World) (h : PtO base w d m p L sure cp A) (hm : m ≤ 900) : Calls Tryd.prog 26 #[pt d 0] w fun e w' => ∃ (ys : List Int) (u : Value), e = .returned u ∧ w'.ownsRow w.heap.size 3 1 u ys.length (ys.flatMap (intE .i64)) ∧ ys.length = (((L.drop sure).map tT).foldl appA A).length ∧ PtO base w' d m p L sure cp A ∧ ButD base w w' := by
  obtain ⟨first, xs, N, h1, h2, ⟨s, hX⟩, h4, h5, h6⟩ := h
  subst h5
  have hrl := run_len ((L.drop sure).map tT) A
  have hxl := hX.2.2.2.2.2.1
  refine (tFiles w hX.1 (by omega)).mono ?_
  rintro e x ⟨ys, u, k1, k2, k3, k4, k5, k6⟩
  refine ⟨ys, u, k1, k2, ?_, ⟨first, _, N, blkD h1 (by decide) k6, blkD h2 (by decide) k6, ⟨s, k5, hX.2⟩, h4, rfl, h6⟩, k6⟩
  have hf := hX.2.1.logs.fil ⟨ys, k3, Nat.le_refl _, rfl⟩
  rw [List.filter_eq_self.2 (fun z hz => by
    have h9 := (k3.2 z).1 hz
    rw [hX.2.1.on z] at h9; unfold flW at h9
    by_cases hl : first ≤ z
    · exact decide_eq_true hl
    · rw [if_neg hl] at h9; cases h9)] at hf
  rw [hf, segN_len]
end
end Go.Proofs.YtfiplhnplmadmaaDoor

/- Package point: a small log is one file. Conditions: none. -/
namespace Go.Proofs.YtfiplhnplmadmaaDoor
open Go.RowKit Go.PlainAid
set_option linter.unusedVariables false
theorem full_no {T : List ByteArray} (h : (catF T).size < 256) : fullS ⟨T, ⟨#[]⟩⟩ = false := by
  unfold fullS WSeg.b
  rw [bapp_nil, decide_eq_false (by show ¬ 256 ≤ (catF T).size; omega)]; rfl
theorem app_one {T : List ByteArray} (h : (catF T).size < 256) (x : ByteArray) : appA [⟨T, ⟨#[]⟩⟩] x = [⟨T ++ [x], ⟨#[]⟩⟩] := by
  have ha : atA [⟨T, ⟨#[]⟩⟩] = 0 := by unfold atA; simp [full_no h]
  unfold appA putA; rw [ha]; rfl
theorem fr_sz {x : ByteArray} (h : x.size ≤ 20) : (frameB x).size ≤ 60 := by
  have h1 := numB_size x
  have h2 : (frameB x).size = (numB x).size + 4 + x.size := by unfold frameB; rw [bsz_app, bsz_app]; rfl
  omega
theorem aw13_len (a b c d : ByteArray) (ha : a.size ≤ 20) (hb : b.size ≤ 20) (hc : c.size ≤ 20) : ([d].foldl appA ([a, b, c].foldl appA [])).length = 1 := by
  have h1 := fr_sz ha; have h2 := fr_sz hb; have h3 := fr_sz hc
  have s1 : (catF [a]).size < 256 := by rw [show catF [a] = catF [] ++ frameB a from by rw [← catF_snoc]; rfl, bsz_app]; show 0 + _ < 256; omega
  have s2 : (catF [a, b]).size < 256 := by
    rw [show catF [a, b] = (catF [] ++ frameB a) ++ frameB b from by rw [← catF_snoc, ← catF_snoc]; rfl, bsz_app, bsz_app]; show 0 + _ + _ < 256; omega
  have s3 : (catF [a, b, c]).size < 256 := by
    rw [show catF [a, b, c] = ((catF [] ++ frameB a) ++ frameB b) ++ frameB c from by rw [← catF_snoc, ← catF_snoc, ← catF_snoc]; rfl, bsz_app, bsz_app, bsz_app]; show 0 + _ + _ + _ < 256; omega
  have e0 : appA [] a = [⟨[a], ⟨#[]⟩⟩] := rfl
  rw [List.foldl_cons, List.foldl_nil, List.foldl_cons, List.foldl_cons, List.foldl_cons, List.foldl_nil, e0, app_one s1, show [a] ++ [b] = [a, b] from rfl, app_one s2, show [a, b] ++ [c] = [a, b, c] from rfl, app_one s3]
  rfl
end Go.Proofs.YtfiplhnplmadmaaDoor

/- catenalaw13: acts, Same, awake. Conditions: a laid table. -/
namespace Go.Proofs.YtfiplhnplmadmaaDoor
open Go.RowKit Go.PlainAid
set_option linter.unusedVariables false
set_option linter.unusedSimpArgs false


/-- A call of stage 13. -/
structure PActT where
  k : Int
  s : ByteArray
  lv : Value
  l : List ByteArray
  n : Int
instance : Inhabited PActT := ⟨⟨0, ⟨#[]⟩, .slice none 0 0, [], 0⟩⟩
def pactE (a : PActT) : List Value := [.int .i64 a.k, .string a.s, a.lv, .int .i64 a.n]
def lenAt (l : List PActT) (i : Nat) : Nat := ((l[i]?).map (·.l.length)).getD 0
theorem lenAt_eq {l : List PActT} {i : Nat} {y : PActT} (h : l[i]? = some y) : lenAt l i = y.l.length := by unfold lenAt; rw [h]; rfl
structure PActS (w : World) (a : PActT) : Prop where
  sl : SliceOf strE 1 w a.lv a.l

set_option maxRecDepth 100000 in
theorem sameStr13_any (u : Value) (v : Value) (l : List ByteArray) (w : World) (hu : SliceOf strE 1 w u l) (hv : SliceOf strE 1 w v l) :
    Calls Tryd.prog 15 #[u, v] w fun e w' => e = .returned (.bool true) ∧ Below w.heap.size w w' := by
 have hB0 := Below.refl w.heap.size w
 have hl_hu := sl_len hu
 have hl_hv := sl_len hv
 refine co_enter (n := 32) Tryd.func15 rfl rfl rfl [(0, u), (1, v)] rfl (fun a h0 => ?_)
 refine co_seq ?_
 refine co_reg ?_
 refine pk0 (v := .bool false) h0 rfl fun a1 h1 => ?_; clear h0
 refine pl_nil ?_
 refine co_then ?_
 refine co_seq ?_
 refine co_seq ?_
 refine co_reg ?_
 refine pk0 (v := u) h1 rfl fun a2 h2 => ?_; clear h1
 refine pk (v := .int .i64 ((l.length : Nat) : Int)) h2 rfl (rn_len rfl rfl Tryd.underlying28 hu) fun a3 h3 => ?_; clear h2
 refine pk0 (v := v) h3 rfl fun a4 h4 => ?_; clear h3
 refine pk (v := .int .i64 ((l.length : Nat) : Int)) h4 rfl (rn_len rfl rfl Tryd.underlying28 hv) fun a5 h5 => ?_; clear h4
 refine pk0 (v := .bool (((l.length : Nat) : Int) != ((l.length : Nat) : Int))) h5 rfl fun a6 h6 => ?_; clear h5
 refine pl_nil ?_
 refine co_then ?_
 have hc7 : (((l.length : Nat) : Int) != ((l.length : Nat) : Int)) = false := by first | (simp; done) | (simp; omega) | exact beq_false_of_ne (by omega) | exact beq_iff_eq.2 (by omega)
 rw [hc7] at h6; clear hc7
 refine co_false h6 rfl ?_
 refine wp_skip ?_
 refine co_then ?_
 refine co_seq ?_
 refine co_seq ?_
 refine co_reg ?_
 refine pk0 (v := .int .i64 0) h6 rfl fun a8 h8 => ?_; clear h6
 refine pl_nil ?_
 refine co_then ?_
 refine wp_block ?_
 have h9 : Slots 32 [(0, u), (1, v), (5, .int .i64 0)] _ := h8.sub ⟨rfl, rfl, rfl, trivial⟩; clear h8
 refine co_loop (fun mm a x => ∃ (i : Nat), Slots 32 [(0, u), (1, v), (5, .int .i64 ((i : Nat) : Int))] a ∧ mm = l.length - i ∧ (i ≤ l.length) ∧ Below w.heap.size w x) (l.length - 0) ?_ ?_
 · exact ⟨0, h9.sub ⟨rfl, rfl, (slot_eq rfl (congrArg (Value.int .i64) (by first | rfl | omega))), trivial⟩, rfl, by omega, hB0⟩
 · rintro k10 a11 w12 ⟨i, h11, rfl, hi13, hB14⟩
   have hz15 := hB14.size
   refine co_seq ?_
   refine co_seq ?_
   refine co_reg ?_
   refine pk0 (v := .int .i64 ((i : Nat) : Int)) h11 rfl fun a16 h16 => ?_; clear h11
   refine pk0 (v := u) h16 rfl fun a17 h17 => ?_; clear h16
   refine pk (v := .int .i64 ((l.length : Nat) : Int)) h17 rfl (rn_len rfl rfl Tryd.underlying28 (hu.below hB14)) fun a18 h18 => ?_; clear h17
   refine pk0 (v := .bool (decide (((i : Nat) : Int) < ((l.length : Nat) : Int)))) h18 rfl fun a19 h19 => ?_; clear h18
   refine pk0 (v := .bool (decide (((i : Nat) : Int) < ((l.length : Nat) : Int)))) h19 rfl fun a20 h20 => ?_; clear h19
   cases hc21 : (decide (((i : Nat) : Int) < ((l.length : Nat) : Int)))
   ·
    rw [hc21] at h20
    have hp22 : ¬ (((i : Nat) : Int) < ((l.length : Nat) : Int)) := of_decide_eq_false hc21
    clear hc21
    refine psk h20 rfl fun a23 h23 => ?_; clear h20
    refine psk h23 rfl fun a24 h24 => ?_; clear h23
    refine psk h24 rfl fun a25 h25 => ?_; clear h24
    refine psk h25 rfl fun a26 h26 => ?_; clear h25
    refine pk0 (v := .bool false) h26 rfl fun a27 h27 => ?_; clear h26
    refine pl_nil ?_
    refine co_then ?_
    refine co_false h27 rfl ?_
    refine wp_exit ?_
    refine co_thenX ?_
    refine co_thenX ?_
    refine co_blockX ?_
    refine co_then ?_
    refine co_seq ?_
    refine co_reg ?_
    refine pk0 (v := .bool true) h27 rfl fun a28 h28 => ?_; clear h27
    refine pl_nil ?_
    refine co_then ?_
    refine wp_ret ?_
    refine co_ret1 h28 rfl rfl ?_
    exact ⟨rfl, hB14⟩
   ·
    rw [hc21] at h20
    have hp29 : ((i : Nat) : Int) < ((l.length : Nat) : Int) := of_decide_eq_true hc21
    clear hc21
    refine pk0 (v := .int .i64 ((i : Nat) : Int)) h20 rfl fun a30 h30 => ?_; clear h20
    refine pk0 (v := v) h30 rfl fun a31 h31 => ?_; clear h30
    refine pk (v := .int .i64 ((l.length : Nat) : Int)) h31 rfl (rn_len rfl rfl Tryd.underlying28 (hv.below hB14)) fun a32 h32 => ?_; clear h31
    refine pk0 (v := .bool (decide (((i : Nat) : Int) < ((l.length : Nat) : Int)))) h32 rfl fun a33 h33 => ?_; clear h32
    refine pk0 (v := .bool (decide (((i : Nat) : Int) < ((l.length : Nat) : Int)))) h33 rfl fun a34 h34 => ?_; clear h33
    refine pl_nil ?_
    refine co_then ?_
    have hc35 : (decide (((i : Nat) : Int) < ((l.length : Nat) : Int))) = true := decide_eq_true (by omega)
    rw [hc35] at h34; clear hc35
    refine co_true h34 rfl ?_
    refine wp_skip ?_
    refine co_then ?_
    refine co_seq ?_
    refine wp_block ?_
    refine co_seq ?_
    refine dr_eq (by kernel_rfl) (fun w36 hg37 => ?_)
    have hz38 := hg37.size
    refine dk0 0 (v := u) h34 rfl rfl rfl fun a39 h39 => ?_; clear h34
    refine dk0 1 (v := .int .i64 ((i : Nat) : Int)) h39 rfl rfl rfl fun a40 h40 => ?_; clear h39
    have hB42 := hb_new hB14 hg37
    obtain ⟨y41, hy41⟩ : ∃ z, l[i]? = some z := ⟨_, List.getElem?_eq_getElem (by first | omega | (simp; done) | (simp; omega))⟩
    refine dk 2 (v := pt (blkOf u) (offOf u + i * 1)) h40 rfl rfl rfl (fun x hx => by subst hx; exact (rn_index rfl rfl rfl Tryd.underlying28 Tryd.sizeOf9 (hu.below hB42) (by omega) (by first | omega | (simp; done) | (simp; omega)))) fun a43 h43 => ?_; clear h40
    refine dk 3 (v := .string y41) h43 rfl rfl rfl (fun x hx => by subst hx; exact (rn_load1 rfl rfl Tryd.isAgg9 ((sl_at (hu.below hB42) hy41) 0 _ rfl))) fun a44 h44 => ?_; clear h43
    refine dk0 4 (v := v) h44 rfl rfl rfl fun a45 h45 => ?_; clear h44
    refine dk0 5 (v := .int .i64 ((i : Nat) : Int)) h45 rfl rfl rfl fun a46 h46 => ?_; clear h45
    refine dk 6 (v := pt (blkOf v) (offOf v + i * 1)) h46 rfl rfl rfl (fun x hx => by subst hx; exact (rn_index rfl rfl rfl Tryd.underlying28 Tryd.sizeOf9 (hv.below hB42) (by omega) (by first | omega | (simp; done) | (simp; omega)))) fun a47 h47 => ?_; clear h46
    refine dk 7 (v := .string y41) h47 rfl rfl rfl (fun x hx => by subst hx; exact (rn_load1 rfl rfl Tryd.isAgg9 ((sl_at (hv.below hB42) hy41) 0 _ rfl))) fun a48 h48 => ?_; clear h47
    refine dk0 8 (v := .bool (!(y41.toList == y41.toList))) h48 rfl rfl rfl fun a49 h49 => ?_; clear h48
    refine dr_done (by kernel_rfl) ?_
    refine co_then ?_
    have hc50 : (!(y41.toList == y41.toList)) = false := by simp
    rw [hc50] at h49; clear hc50
    refine co_false h49 rfl ?_
    refine wp_skip ?_
    refine co_blockN ?_
    refine co_then ?_
    refine co_reg ?_
    refine pk0 (v := .int .i64 ((i : Nat) : Int)) h49 rfl fun a51 h51 => ?_; clear h49
    refine pk (v := .int .i64 ((i + 1 : Nat) : Int)) h51 rfl (rn_arith' rfl rfl rfl rfl rfl rfl (IntWalk.i64_in _ (by omega)) (by omega)) fun a52 h52 => ?_; clear h51
    refine pk0 (v := .int .i64 ((i + 1 : Nat) : Int)) h52 rfl fun a53 h53 => ?_; clear h52
    refine pl_nil ?_
    refine co_then ?_
    refine ⟨(l.length - (i + 1)), by omega, ?_⟩
    exact ⟨i + 1, h53.sub ⟨rfl, rfl, rfl, trivial⟩, rfl, by omega, hB42⟩
set_option maxRecDepth 100000 in
set_option maxHeartbeats 3200000 in
theorem awake13  (w : World) (ht : Tab w) :
    Calls Tryd.prog 19 #[] w fun e w' => e = .returned (.bool true) ∧ Below w.heap.size w w' := by
 have hB0 := Below.refl w.heap.size w
 refine co_enter (n := 46) Tryd.func19 rfl rfl rfl [] rfl (fun a h0 => ?_)
 refine co_seq ?_
 refine co_reg ?_
 refine pk0 (v := .bool false) h0 rfl fun a1 h1 => ?_; clear h0
 refine pl_nil ?_
 refine co_then ?_
 refine co_seq ?_
 refine co_reg ?_
 refine pw h1 rfl (op_call (args := #[]) (R := fun res xw => ∃ N, res = pt N 0 ∧ WlO w.heap.size xw N 0 1 [] [] ∧ Below w.heap.size w xw) rfl rfl rfl (by kernel_rfl) (by kernel_rfl) (Tryd.call10 _ _) (wlNew w.heap.size 1 w (by omega) (by omega)) (by rintro e x ⟨N, rfl, h1, h2⟩; exact ⟨_, rfl, N, rfl, h1, h2⟩)) ?_; clear h1
 rintro _ w3 a2 ⟨N6, rfl, hd4, hb7⟩ h2
 have hz8 := hb7.size
 refine pk0 (v := pt N6 0) h2 rfl fun a9 h9 => ?_; clear h2
 refine pl_nil ?_
 refine co_then ?_
 refine co_seq ?_
 refine co_reg ?_
 refine pk0 (v := pt N6 0) h9 rfl fun a10 h10 => ?_; clear h9
 have hB15 := hb_call hB0 hb7
 refine pw h10 rfl (op_call (args := #[pt N6 0]) (R := fun res xw => ∃ p : Nat, res = .tuple #[pt p 0, .int .i64 0] ∧ PtO w.heap.size xw N6 1 p ([] : List ByteArray) 0 0 ([hdP 0].foldl appA []) ∧ ButD w.heap.size w3 xw) rfl rfl rfl (by kernel_rfl) (by kernel_rfl) (Tryd.call20 _ _) (ptNew w3 hd4 (ht.below hB15) (tab_pos ht)) (by rintro e x ⟨p, rfl, h⟩; exact ⟨_, rfl, p, rfl, h⟩)) ?_; clear h10
 rintro _ w12 a11 ⟨p16, rfl, hd13, hx14⟩ h11
 have hz18 := hx14.size
 have hB17 := (hbD hB15 hx14)
 have hz19 := hB17.size
 have hln20 := PtO.len hd13
 refine pk0 (v := .tuple #[pt p16 0, .int .i64 0]) h11 rfl fun a21 h21 => ?_; clear h11
 refine pk0 (v := pt p16 0) h21 rfl fun a22 h22 => ?_; clear h21
 refine pk0 (v := .int .i64 0) h22 rfl fun a23 h23 => ?_; clear h22
 refine pk0 (v := pt p16 0) h23 rfl fun a24 h24 => ?_; clear h23
 refine pk0 (v := .int .i64 0) h24 rfl fun a25 h25 => ?_; clear h24
 refine pl_nil ?_
 refine co_then ?_
 refine co_seq ?_
 refine co_reg ?_
 refine pk0 (v := pt p16 0) h25 rfl fun a26 h26 => ?_; clear h25
 refine pw h26 rfl (op_call (args := #[pt p16 0, .string (⟨#[97]⟩)]) (R := fun res xw => res = .int .i64 0 ∧ PtO w.heap.size xw N6 2 p16 (([] : List ByteArray) ++ [(⟨#[97]⟩ : ByteArray)]) 0 0 ([hdP 0].foldl appA []) ∧ ButD w.heap.size w12 xw) rfl rfl rfl (by kernel_rfl) (by kernel_rfl) (Tryd.call21 _ _) (ptAppend w12 (⟨#[97]⟩ : ByteArray) hd13 (by omega) (ht.below hB17) (tab_pos ht) (by decide)) (by rintro e x ⟨rfl, h1, h2⟩; exact ⟨_, rfl, rfl, h1, h2⟩)) ?_; clear h26
 rintro _ w28 a27 ⟨rfl, hd29, hx30⟩ h27
 have hz32 := hx30.size
 have hB31 := (hbD hB17 hx30)
 have hz33 := hB31.size
 have hln34 := PtO.len hd29
 refine pk0 (v := .int .i64 0) h27 rfl fun a35 h35 => ?_; clear h27
 refine pl_nil ?_
 refine co_then ?_
 refine co_seq ?_
 refine co_reg ?_
 refine pk0 (v := pt p16 0) h35 rfl fun a36 h36 => ?_; clear h35
 refine pw h36 rfl (op_new (v := fun N => .slice (some ⟨N, 0, none⟩) 2 2) (T := 9) (cs := #[.string (⟨#[98]⟩), .string (⟨#[99]⟩)]) (by kernel_rfl) (by kernel_rfl) (by kernel_rfl)) ?_; clear h36
 rintro _ w38 a37 ⟨N39, rfl, hN42, hz43, hk41, hg40⟩ h37
 have hz44 := hg40.size
 try dsimp only at h37
 have hB49 := hb_new hB31 hg40
 have hr50 := row_of_cells (enc := strE) (sz := 1) ([⟨#[98]⟩, ⟨#[99]⟩] : List ByteArray) hk41 (Nat.le_refl _) rfl rfl (by unfold maxLen; simp)
 have hl51 : ([⟨#[98]⟩, ⟨#[99]⟩] : List ByteArray).length = 2 := rfl
 have hd52 := hd29.new hg40
 refine pw h37 rfl (op_call (args := #[pt p16 0, .slice (some ⟨N39, 0, none⟩) 2 2]) (R := fun res xw => res = .int .i64 0 ∧ PtO w.heap.size xw N6 (2 + ([⟨#[98]⟩, ⟨#[99]⟩] : List ByteArray).length + 1) p16 ([⟨#[98]⟩, ⟨#[99]⟩] : List ByteArray) (([⟨#[98]⟩, ⟨#[99]⟩] : List ByteArray).length) (([⟨#[98]⟩, ⟨#[99]⟩] : List ByteArray).length) ((hdP ([⟨#[98]⟩, ⟨#[99]⟩] : List ByteArray).length :: ([⟨#[98]⟩, ⟨#[99]⟩] : List ByteArray).map tT).foldl appA []) ∧ ButP w.heap.size p16 w38 xw) rfl rfl rfl (by kernel_rfl) (by kernel_rfl) (Tryd.call25 _ _) (ptSave (.slice (some ⟨N39, 0, none⟩) 2 2) ([⟨#[98]⟩, ⟨#[99]⟩] : List ByteArray) w38 hd52 (fun X hX => SliceOf.own (rowD hr50 (by unfold offD; decide) hX) (fun _ _ => rfl)) (by omega) (by intro z hz; simp at hz; rcases hz with rfl | rfl <;> decide) (ht.below hB49) (tab_pos ht)) (by rintro e x ⟨rfl, h1, h2⟩; exact ⟨_, rfl, rfl, h1, h2⟩)) ?_; clear h37
 rintro _ w46 a45 ⟨rfl, hd47, hx48⟩ h45
 obtain ⟨_, hbk54⟩ := PtO.blk hd52
 have hz55 := hx48.size
 have hB53 := (hbP hB49 hx48 (PtO.lo hd52))
 have hz56 := hB53.size
 have hln57 := PtO.len hd47
 refine pk0 (v := .int .i64 0) h45 rfl fun a58 h58 => ?_; clear h45
 refine pl_nil ?_
 refine co_then ?_
 refine co_seq ?_
 refine co_reg ?_
 refine pk0 (v := pt p16 0) h58 rfl fun a59 h59 => ?_; clear h58
 refine pw h59 rfl (op_call (args := #[pt p16 0, .string (⟨#[100]⟩)]) (R := fun res xw => res = .int .i64 0 ∧ PtO w.heap.size xw N6 ((2 + ([⟨#[98]⟩, ⟨#[99]⟩] : List ByteArray).length + 1) + 1) p16 (([⟨#[98]⟩, ⟨#[99]⟩] : List ByteArray) ++ [(⟨#[100]⟩ : ByteArray)]) (([⟨#[98]⟩, ⟨#[99]⟩] : List ByteArray).length) (([⟨#[98]⟩, ⟨#[99]⟩] : List ByteArray).length) ((hdP ([⟨#[98]⟩, ⟨#[99]⟩] : List ByteArray).length :: ([⟨#[98]⟩, ⟨#[99]⟩] : List ByteArray).map tT).foldl appA []) ∧ ButD w.heap.size w46 xw) rfl rfl rfl (by kernel_rfl) (by kernel_rfl) (Tryd.call21 _ _) (ptAppend w46 (⟨#[100]⟩ : ByteArray) hd47 (by omega) (ht.below hB53) (tab_pos ht) (by decide)) (by rintro e x ⟨rfl, h1, h2⟩; exact ⟨_, rfl, rfl, h1, h2⟩)) ?_; clear h59
 rintro _ w61 a60 ⟨rfl, hd62, hx63⟩ h60
 have hz65 := hx63.size
 have hB64 := (hbD hB53 hx63)
 have hz66 := hB64.size
 have hln67 := PtO.len hd62
 refine pk0 (v := .int .i64 0) h60 rfl fun a68 h68 => ?_; clear h60
 refine pl_nil ?_
 refine co_then ?_
 refine co_seq ?_
 refine co_reg ?_
 refine pk0 (v := .int .i64 0) h68 rfl fun a69 h69 => ?_; clear h68
 refine pk0 (v := .bool ((0 : Int) == 0)) h69 rfl fun a70 h70 => ?_; clear h69
 refine pk0 (v := .bool ((0 : Int) == 0)) h70 rfl fun a71 h71 => ?_; clear h70
 have hc72 : ((0 : Int) == 0) = true := by first | (simp; done) | (simp; omega) | exact beq_false_of_ne (by omega) | exact beq_iff_eq.2 (by omega)
 rw [hc72] at h71; clear hc72
 refine pk0 (v := .int .i64 0) h71 rfl fun a73 h73 => ?_; clear h71
 refine pk0 (v := .bool ((0 : Int) == 0)) h73 rfl fun a74 h74 => ?_; clear h73
 refine pk0 (v := .bool ((0 : Int) == 0)) h74 rfl fun a75 h75 => ?_; clear h74
 refine pk0 (v := .bool ((0 : Int) == 0)) h75 rfl fun a76 h76 => ?_; clear h75
 have hc77 : ((0 : Int) == 0) = true := by first | (simp; done) | (simp; omega) | exact beq_false_of_ne (by omega) | exact beq_iff_eq.2 (by omega)
 rw [hc77] at h76; clear hc77
 refine pk0 (v := .int .i64 0) h76 rfl fun a78 h78 => ?_; clear h76
 refine pk0 (v := .bool ((0 : Int) == 0)) h78 rfl fun a79 h79 => ?_; clear h78
 refine pk0 (v := .bool ((0 : Int) == 0)) h79 rfl fun a80 h80 => ?_; clear h79
 refine pk0 (v := .bool ((0 : Int) == 0)) h80 rfl fun a81 h81 => ?_; clear h80
 have hc82 : ((0 : Int) == 0) = true := by first | (simp; done) | (simp; omega) | exact beq_false_of_ne (by omega) | exact beq_iff_eq.2 (by omega)
 rw [hc82] at h81; clear hc82
 refine pk0 (v := .int .i64 0) h81 rfl fun a83 h83 => ?_; clear h81
 refine pk0 (v := .bool ((0 : Int) == 0)) h83 rfl fun a84 h84 => ?_; clear h83
 refine pk0 (v := .bool ((0 : Int) == 0)) h84 rfl fun a85 h85 => ?_; clear h84
 refine pk0 (v := .bool ((0 : Int) == 0)) h85 rfl fun a86 h86 => ?_; clear h85
 have hc87 : ((0 : Int) == 0) = true := by first | (simp; done) | (simp; omega) | exact beq_false_of_ne (by omega) | exact beq_iff_eq.2 (by omega)
 rw [hc87] at h86; clear hc87
 refine pk0 (v := pt p16 0) h86 rfl fun a88 h88 => ?_; clear h86
 have hr93 := rowP hr50 (by unfold offD; decide) hx48 hbk54 (by decide)
 have hr94 := rowD hr93 (by unfold offD; decide) hx63
 refine pw h88 rfl (op_call (args := #[pt p16 0]) (R := fun res xw => ∃ (u : Value), u = res ∧ xw.ownsRow w61.heap.size 9 1 u (([⟨#[98]⟩, ⟨#[99]⟩] : List ByteArray) ++ [(⟨#[100]⟩ : ByteArray)]).length ((([⟨#[98]⟩, ⟨#[99]⟩] : List ByteArray) ++ [(⟨#[100]⟩ : ByteArray)]).flatMap strE) ∧ PtO w.heap.size xw N6 ((2 + ([⟨#[98]⟩, ⟨#[99]⟩] : List ByteArray).length + 1) + 1) p16 (([⟨#[98]⟩, ⟨#[99]⟩] : List ByteArray) ++ [(⟨#[100]⟩ : ByteArray)]) (([⟨#[98]⟩, ⟨#[99]⟩] : List ByteArray).length) (([⟨#[98]⟩, ⟨#[99]⟩] : List ByteArray).length) ((hdP ([⟨#[98]⟩, ⟨#[99]⟩] : List ByteArray).length :: ([⟨#[98]⟩, ⟨#[99]⟩] : List ByteArray).map tT).foldl appA []) ∧ ButD w.heap.size w61 xw) rfl rfl rfl (by kernel_rfl) (by kernel_rfl) (Tryd.call23 _ _) (ptTexts w61 hd62 (by omega) (ht.below hB64) (tab_pos ht)) (by rintro e x ⟨u, rfl, h⟩; exact ⟨_, rfl, u, rfl, h⟩)) ?_; clear h88
 rintro _ w90 a89 ⟨u95, rfl, hr96, hd91, hx92⟩ h89
 have hz98 := hx92.size
 have hB97 := (hbD hB64 hx92)
 have hz99 := hB97.size
 have hln100 := PtO.len hd91
 have hl101 := sl_len (row_sl hr96 strE_lenW)
 refine pw h89 rfl (op_new (v := fun N => .slice (some ⟨N, 0, none⟩) 3 3) (T := 9) (cs := #[.string (⟨#[98]⟩), .string (⟨#[99]⟩), .string (⟨#[100]⟩)]) (by kernel_rfl) (by kernel_rfl) (by kernel_rfl)) ?_; clear h89
 rintro _ w103 a102 ⟨N104, rfl, hN107, hz108, hk106, hg105⟩ h102
 have hr110 := rowD hr94 (by unfold offD; decide) hx92
 have ha109 := row_fresh hr110 hN107
 have ha111 := row_fresh hr96 hN107
 have hz112 := hg105.size
 try dsimp only at h102
 have hr115 := row_of_cells (enc := strE) (sz := 1) ([⟨#[98]⟩, ⟨#[99]⟩, ⟨#[100]⟩] : List ByteArray) hk106 (Nat.le_refl _) rfl rfl (by unfold maxLen; simp)
 have hr116 := row_kept_new hr96 hg105
 have hB117 := hb_new hB97 hg105
 refine pw h102 rfl (op_call (args := #[u95, .slice (some ⟨N104, 0, none⟩) 3 3]) (R := fun res xw => res = .bool true ∧ Below w103.heap.size w103 xw) rfl rfl rfl (by kernel_rfl) (by kernel_rfl) (Tryd.call15 _ _) (sameStr13_any u95 (.slice (some ⟨N104, 0, none⟩) 3 3) (([⟨#[98]⟩, ⟨#[99]⟩] : List ByteArray) ++ [(⟨#[100]⟩ : ByteArray)]) w103 (row_sl hr116 strE_lenW) (sl_castW (row_sl hr115 strE_lenW) (by rfl))) (by rintro e x ⟨rfl, h⟩; exact ⟨_, rfl, rfl, h⟩)) ?_; clear h102
 rintro _ w114 a113 ⟨rfl, hb118⟩ h113
 have hz119 := hb118.size
 refine pk0 (v := .bool true) h113 rfl fun a120 h120 => ?_; clear h113
 refine pk0 (v := .bool true) h120 rfl fun a121 h121 => ?_; clear h120
 refine pk0 (v := pt N6 0) h121 rfl fun a122 h122 => ?_; clear h121
 have hB127 := hb_call hB117 hb118
 have hr128 := row_kept_new hr110 hg105
 have hr129 := row_kept_new hr128 (below_grown hb118)
 have hd130 := hd91.new hg105
 have hd131 := hd130.call hb118
 refine pw h122 rfl (op_call (args := #[pt N6 0]) (R := fun res xw => ∃ (ys : List Int) (u : Value), u = res ∧ xw.ownsRow w114.heap.size 3 1 u ys.length (ys.flatMap (intE .i64)) ∧ ys.length = ((((([⟨#[98]⟩, ⟨#[99]⟩] : List ByteArray) ++ [(⟨#[100]⟩ : ByteArray)]).drop (([⟨#[98]⟩, ⟨#[99]⟩] : List ByteArray).length)).map tT).foldl appA ((hdP ([⟨#[98]⟩, ⟨#[99]⟩] : List ByteArray).length :: ([⟨#[98]⟩, ⟨#[99]⟩] : List ByteArray).map tT).foldl appA [])).length ∧ PtO w.heap.size xw N6 ((2 + ([⟨#[98]⟩, ⟨#[99]⟩] : List ByteArray).length + 1) + 1) p16 (([⟨#[98]⟩, ⟨#[99]⟩] : List ByteArray) ++ [(⟨#[100]⟩ : ByteArray)]) (([⟨#[98]⟩, ⟨#[99]⟩] : List ByteArray).length) (([⟨#[98]⟩, ⟨#[99]⟩] : List ByteArray).length) ((hdP ([⟨#[98]⟩, ⟨#[99]⟩] : List ByteArray).length :: ([⟨#[98]⟩, ⟨#[99]⟩] : List ByteArray).map tT).foldl appA []) ∧ ButD w.heap.size w114 xw) rfl rfl rfl (by kernel_rfl) (by kernel_rfl) (Tryd.call26 _ _) (ptFiles w114 hd131 (by omega)) (by rintro e x ⟨ys, u, rfl, h⟩; exact ⟨_, rfl, ys, u, rfl, h⟩)) ?_; clear h122
 rintro _ w124 a123 ⟨ys134, u132, rfl, hr133, hn135, hd125, hx126⟩ h123
 have hz137 := hx126.size
 have hB136 := (hbD hB127 hx126)
 have hz138 := hB136.size
 have hln139 := PtO.len hd125
 have hl140 := sl_len (row_sl hr133 (intE_len .i64))
 have hfl : ys134.length = 1 := hn135.trans (aw13_len _ _ _ _ (by decide) (by decide) (by decide))
 refine pk (v := .int .i64 ((ys134.length : Nat) : Int)) h123 rfl (rn_lenOwn rfl rfl Tryd.underlying53 hr133) fun a141 h141 => ?_; clear h123
 refine pk0 (v := .bool (((ys134.length : Nat) : Int) == 1)) h141 rfl fun a142 h142 => ?_; clear h141
 refine pk0 (v := .bool (((ys134.length : Nat) : Int) == 1)) h142 rfl fun a143 h143 => ?_; clear h142
 refine pk0 (v := .bool (((ys134.length : Nat) : Int) == 1)) h143 rfl fun a144 h144 => ?_; clear h143
 refine pl_nil ?_
 refine co_then ?_
 refine wp_ret ?_
 refine co_ret1 h144 rfl rfl ?_
 exact ⟨by rw [hfl]; rfl, hB136⟩
end Go.Proofs.YtfiplhnplmadmaaDoor

/- Package point: a crash keeps a log's beginning. Conditions: none. -/
namespace Go.Proofs.YtfiplhnplmadmaaDoor
open Go.RowKit Go.PlainAid Go.Shelf
set_option linter.unusedVariables false
theorem hd_put {C : List WSeg} {f : WSeg → WSeg} (hf : ∀ y : WSeg, y.T <+: (f y).T) {y : WSeg} (hy : C[0]? = some y) : ∃ z, (putA C f)[0]? = some z ∧ y.T <+: z.T := by
  rw [putA_get]
  by_cases h : 0 = atA C
  · rw [if_pos h, ← h, hy]; exact ⟨_, rfl, hf y⟩
  · rw [if_neg h]; exact ⟨y, hy, List.prefix_refl _⟩
theorem crash_run2 {first : Int} {F : List WSeg} : ∀ (xs : List ByteArray) (C : List WSeg) (X : Int × Bool × (Int → Option FileM)), 0 ≤ X.1 → X.2.1 = true → SafeD X.2.2 first F C → OkA C → (∀ x ∈ xs, x.size ≤ 65536) → (∀ i : Nat, (F[i]?).isSome = ((xs.foldl appA C)[i]?).isSome ∧ bytA F i = bytA (xs.foldl appA C) i) →
    ∃ (j : Nat) (E : List WSeg), j ≤ xs.length ∧ txtA E = txtA C ++ xs.take j ∧ OkA E ∧ SafeD ((pcsA first C xs).foldl crStep X).2.2 first F E ∧ E.length ≤ C.length + j + 1 ∧ (∀ y, C[0]? = some y → ∃ z, E[0]? = some z ∧ y.T <+: z.T)
  | [], C, X, hl, hw, hS, hO, hx, hF => ⟨0, C, Nat.le_refl _, by simp, hO, hS, by omega, fun y hy => ⟨y, hy, List.prefix_refl _⟩⟩
  | x :: r, C, X, hl, hw, hS, hO, hx, hF => by
    have hxs := hx x (List.mem_cons_self ..)
    have hpos := frameB_pos x
    have hat : (F[atA C]?).isSome = true := by
      rw [(hF (atA C)).1, List.foldl_cons]
      exact some_run r _ _ (by unfold appA; rw [some_put]; simp)
    have hpre : bytA (appA C x) (atA C) <+: bytA F (atA C) := by
      rw [(hF (atA C)).2, List.foldl_cons]; exact byt_run r _ _
    rw [byt_app, if_pos rfl] at hpre
    have hfl : (frameB x).data.toList.length = (frameB x).size := list_len _
    by_cases hlt : X.1 < ((frameB x).size : Int)
    · have hdead : ((pcsA first C (x :: r)).foldl crStep X).2.2 = (crStep X (hereA first C, ((frameB x).size : Int))).2.2 := by
        show ((pcsA first (appA C x) r).foldl crStep (crStep X (hereA first C, ((frameB x).size : Int)))).2.2 = _
        refine cr_dead _ _ ?_ (pcs_pos _ _ _)
        unfold crStep; show X.1 - (if X.1 < ((frameB x).size : Int) then X.1 else _) = 0
        rw [if_pos hlt]; omega
      rw [hdead]
      have hstep : (crStep X (hereA first C, ((frameB x).size : Int))).2.2 = if 0 < X.1 then putF X.2.2 (hereA first C) ((getF X.2.2 (hereA first C)).1, (getF X.2.2 (hereA first C)).2.1 + X.1, true) else X.2.2 := by
        unfold crStep
        simp only [if_pos hlt]
        by_cases h0 : 0 < X.1
        · rw [if_pos (.inl h0), if_pos h0]
        · rw [if_neg (by rintro (h | ⟨h, -⟩); exact h0 h; have h : ((frameB x).size : Int) = 0 := h; omega), if_neg h0]
      rw [hstep]
      by_cases h0 : 0 < X.1
      · rw [if_pos h0]
        have hq : (((frameB x).extract 0 X.1.toNat).data.toList) <+: (frameB x).data.toList := by rw [ext_take]; exact List.take_prefix _ _
        have hql : ((frameB x).extract 0 X.1.toNat).data.toList.length = X.1.toNat := by rw [ext_take, List.length_take]; omega
        refine ⟨0, torA C ((frameB x).extract 0 X.1.toNat), Nat.zero_le _, by rw [txt_tor]; simp, hO.tor hxs hq (by rw [← list_len, hql]; omega), hS.step (fun k => byt_tor C _ k) hat (List.IsPrefix.trans ((List.prefix_append_right_inj _).2 hq) hpre) (by rw [hql]; omega), ?_, fun y hy => hd_put (f := torS ((frameB x).extract 0 X.1.toNat)) (fun z => List.prefix_refl _) hy⟩
        unfold torA; rw [putA_len]; split <;> omega
      · rw [if_neg h0]
        exact ⟨0, C, Nat.zero_le _, by simp, hO, hS, by omega, fun y hy => ⟨y, hy, List.prefix_refl _⟩⟩
    · have hstep : crStep X (hereA first C, ((frameB x).size : Int)) = (X.1 - ((frameB x).size : Int), true, putF X.2.2 (hereA first C) ((getF X.2.2 (hereA first C)).1, (getF X.2.2 (hereA first C)).2.1 + ((frameB x).size : Int), true)) := by
        unfold crStep
        simp only [if_neg hlt, hw]
        rw [if_pos (.inl (by omega))]; simp
      obtain ⟨j, E, h1, h2, h3, h4, h5, h6⟩ := crash_run2 r (appA C x) (crStep X (hereA first C, ((frameB x).size : Int))) (by rw [hstep]; show 0 ≤ X.1 - ((frameB x).size : Int); omega) (by rw [hstep]) (by rw [hstep]; exact hS.step (fun k => byt_app C x k) hat hpre (by rw [hfl])) (hO.app hxs) (fun z hz => hx z (List.mem_cons_of_mem _ hz)) (fun i => hF i)
      have hlen : (appA C x).length ≤ C.length + 1 := by unfold appA; rw [putA_len]; split <;> omega
      exact ⟨j + 1, E, by simp; omega, by rw [h2, txt_app, List.append_assoc]; rfl, h3, h4, by omega, fun y hy => by
        obtain ⟨z, z1, z2⟩ := hd_put (f := appS x) (fun z => List.prefix_append _ _) hy
        obtain ⟨z', z3, z4⟩ := h6 z z1
        exact ⟨z', z3, List.IsPrefix.trans z2 z4⟩⟩
theorem WSt.crash2 {s : DkS} {first : Int} {A : List WSeg} {xs : List ByteArray} (h : WSt s first A xs) (n : Int) :
    ∃ (j : Nat) (E : List WSeg), j ≤ xs.length ∧ txtA E = txtA A ++ xs.take j ∧ E.length ≤ A.length + j + 1 ∧ WSt (crS s n) first E [] ∧ (∀ y, A[0]? = some y → ∃ z, E[0]? = some z ∧ y.T <+: z.T) := by
  obtain ⟨j, E, h1, h2, h3, ⟨h4, h5, h6⟩, h7, h8⟩ := crash_run2 (first := first) (F := xs.foldl appA A) xs A (mx0 n, true, s.fm) (mx0_nn n) rfl ⟨h.on, fun i hi => some_run xs A i hi, fun i => byt_run xs A i⟩ h.ok h.tx (fun i => ⟨rfl, rfl⟩)
  refine ⟨j, E, h1, h2, h7, ⟨fun k => ?_, rfl, h3, fun x hx => by cases hx⟩, h8⟩
  show trF (crRun n s.fm s.ps).2.2 k = flW first E E k
  have e : (crRun n s.fm s.ps).2.2 = ((pcsA first A xs).foldl crStep (mx0 n, true, s.fm)).2.2 := by rw [h.ps]; rfl
  rw [e]; unfold trF; rw [h4 k]; unfold flW
  by_cases hl : first ≤ k
  · rw [if_pos hl, if_pos hl]
    generalize (k - first).toNat = i at *
    by_cases hE : (E[i]?).isSome = true
    · rw [if_pos (h5 i hE), if_pos hE]
      show trM _ = _
      unfold trM
      simp only [hE, if_true]
      have := List.prefix_iff_eq_take.1 (h6 i)
      rw [show ((bytA E i).length : Int).toNat = (bytA E i).length by omega, ← this]
    · rw [if_neg hE]
      split
      · show trM _ = none
        unfold trM; simp [hE]
      · rfl
  · rw [if_neg hl, if_neg hl]; rfl
/-- The log's first text is the checkpoint's. -/
def HdA (A : List WSeg) (cp : Nat) : Prop := ∃ y r, A[0]? = some y ∧ y.T = hdP cp :: r
theorem HdA.app {A : List WSeg} {cp : Nat} (h : HdA A cp) (x : ByteArray) : HdA (appA A x) cp := by
  obtain ⟨y, r, h1, h2⟩ := h
  obtain ⟨z, h3, t, h4⟩ := hd_put (f := appS x) (fun z => List.prefix_append _ _) h1
  exact ⟨z, r ++ t, h3, by rw [← h4, h2]; rfl⟩
theorem HdA.run {cp : Nat} : ∀ (xs : List ByteArray) {A : List WSeg}, HdA A cp → HdA (xs.foldl appA A) cp
  | [], A, h => h
  | x :: r, A, h => HdA.run r (h.app x)
theorem hd_new (cp : Nat) (l : List ByteArray) : HdA ((hdP cp :: l).foldl appA []) cp := by
  rw [List.foldl_cons]
  exact HdA.run l ⟨⟨[hdP cp], ⟨#[]⟩⟩, [], rfl, rfl⟩
section
variable {base d m p : Nat} {L : List ByteArray} {sure cp : Nat} {A : List WSeg} {w x : World}
theorem ptCrash (w : World) (n : Int) (hn : -9223372036854775808 ≤ n ∧ n ≤ 9223372036854775807) (h : PtO base w d m p L sure cp A) (hA : HdA A cp) (hm : m ≤ 900) : Calls Tryd.prog 14 #[pt d 0, .int .i64 n] w fun e w' => ∃ (k : Nat) (E : List WSeg) (first : Int), e = .returned (.tuple #[]) ∧ (sure ≤ k ∧ k ≤ L.length) ∧ txtA E = hdP cp :: (L.take k).map tT ∧ HdA E cp ∧ WlO base w' d (m + 1) first E [] ∧ first ≤ 1 + (m : Int) * 1000 ∧ ButD base w w' := by
  obtain ⟨first, xs, N, k1, k2, ⟨s, h1, h2, h3, h4, h5, h6, h7, h8, h9⟩, q1, q2, q3, q4, q5⟩ := h
  have hl := run_len xs A
  refine (tCrash w n h1 (by omega) (h3.hpl hm) ⟨h4, by omega⟩ hn (h3.hcr hm hn) h3.hfin).mono ?_
  rintro e x ⟨r1, r2, r3⟩
  obtain ⟨j, E, j1, j2, j3, j4, j5⟩ := h2.crash2 n
  have hk := r2.tight (j4.on.keys)
  rw [segN_len] at hk
  have hj : j ≤ L.length - sure := by rw [q2, List.length_map, List.length_drop] at j1; exact j1
  refine ⟨sure + j, E, first, r1, ⟨by omega, by omega⟩, ?_, ?_, ⟨_, hk, j4, (h3.crashW j4).up (Nat.le_succ m), ?_, ?_, by simp; omega, ?_, h8, h9⟩, q5.1, r3⟩
  · rw [j2, q1, q2, List.take_add, List.map_append, List.map_take, List.cons_append, List.map_drop, List.map_take, List.map_drop]
  · obtain ⟨y, r, a1, a2⟩ := hA
    obtain ⟨z, b1, t, b2⟩ := j5 y a1
    exact ⟨z, r ++ t, b1, by rw [← b2, a2]; rfl⟩
  · show 0 ≤ s.boots + 1; omega
  · show s.boots + 1 ≤ ((m + 1 : Nat) : Int) + 1; omega
  · rw [j2, List.length_append, List.length_take]; simp; omega
end
end Go.Proofs.YtfiplhnplmadmaaDoor

/- Package point, pure: which of a crashed log's files begin a whole point. Conditions: none. -/
namespace Go.Proofs.YtfiplhnplmadmaaDoor
open Go.RowKit Go.PlainAid
set_option linter.unusedVariables false
def sgE (first : Int) (A : List WSeg) (k : Int) : WSeg := if first ≤ k then (A[(k - first).toNat]?).getD ⟨[], ⟨#[]⟩⟩ else ⟨[], ⟨#[]⟩⟩
theorem sgE_at (first : Int) (A : List WSeg) (i : Nat) : sgE first A (first + (i : Int)) = (A[i]?).getD ⟨[], ⟨#[]⟩⟩ := by
  unfold sgE; rw [if_pos (by omega), show (first + (i : Int) - first).toNat = i by omega]
theorem beg_no {z : WSeg} (h : ∀ x ∈ z.T, ∃ t, x = tT t) : begB z = (0, false) := by
  unfold begB
  cases hT : z.T with
  | nil => rfl
  | cons x r =>
    obtain ⟨t, rfl⟩ := h x (by rw [hT]; exact List.mem_cons_self ..)
    exact cnt_tT t
theorem hd_beg {E : List WSeg} {cp : Nat} (h : HdA E cp) (hb : cp < 1000000) : begB ((E[0]?).getD ⟨[], ⟨#[]⟩⟩) = ((cp : Int), true) := by
  obtain ⟨y, r, h1, h2⟩ := h
  rw [h1]; unfold begB; show (match y.T with | [] => (0, false) | x :: _ => cntB x) = _
  rw [h2]; exact cnt_hd cp hb
theorem others {E : List WSeg} {cp : Nat} {l : List ByteArray} (h : HdA E cp) (hT : txtA E = hdP cp :: l.map tT) (i : Nat) (hi : 0 < i) : begB ((E[i]?).getD ⟨[], ⟨#[]⟩⟩) = (0, false) := by
  apply beg_no
  cases hz : E[i]? with
  | none => intro x hx; cases hx
  | some z =>
    intro x hx
    obtain ⟨y, r, h1, h2⟩ := h
    cases E with
    | nil => cases h1
    | cons y0 E' =>
      obtain rfl : y0 = y := by simpa using h1
      have hm : z ∈ E' := by
        cases i with
        | zero => omega
        | succ i => exact List.mem_of_getElem? (by simpa using hz)
      have e1 : txtA (y0 :: E') = y0.T ++ txtA E' := rfl
      rw [e1, h2, List.cons_append] at hT
      have e2 := (List.cons.inj hT).2
      have hx2 : x ∈ l.map tT := by
        rw [← e2]; exact List.mem_append_right _ (List.mem_flatMap.2 ⟨z, hm, hx⟩)
      obtain ⟨t, -, rfl⟩ := List.mem_map.1 hx2
      exact ⟨t, rfl⟩
theorem has_seg (first : Int) (E : List WSeg) : ∀ n, n ≤ E.length → hasF (sgE first E) (segN first n) = (ownB (txtA (E.take n))).length
  | 0, _ => rfl
  | n + 1, hn => by
    have ih := has_seg first E n (by omega)
    have h1 : hasF (sgE first E) (segN first (n + 1)) = hasF (sgE first E) (segN first n) + (ownB (sgE first E (first + (n : Int))).T).length := by
      rw [segN_snoc]; unfold hasF; rw [List.foldl_append]; rfl
    have h2 : E[n]? = some E[n] := List.getElem?_eq_getElem (by omega)
    rw [h1, ih, sgE_at, h2, List.take_add_one, h2]
    unfold txtA
    rw [List.flatMap_append, own_app, List.length_append]
    simp
theorem rowN_seg {P : Int → Bool} (first : Int) (n : Nat) (hP : ∀ i : Nat, 0 < i → i < n → P (first + (i : Int)) = true) : rowF P first (segN first n) = segN first n := by
  induction n with
  | zero => rfl
  | succ n ih =>
    unfold rowF at ih ⊢
    rw [segN_snoc, List.foldl_append, ih (fun i h1 h2 => hP i h1 (by omega)), List.foldl_cons, List.foldl_nil]
    show rowS P first (segN first n) (first + (n : Int)) = _
    unfold rowS; rw [if_pos]
    refine ⟨by rw [segN_len], ?_⟩
    by_cases h0 : n = 0
    · left; subst h0; simp
    · exact .inr (hP n (by omega) (by omega))
theorem whole_first {first : Int} {E : List WSeg} {cp : Nat} {l : List ByteArray} (h : HdA E cp) (hT : txtA E = hdP cp :: l.map tT) (hc : cp ≤ l.length) (hb : cp < 1000000) : wholeF (sgE first E) first (segN first E.length) = segN first E.length := by
  have h0 : begB (sgE first E first) = ((cp : Int), true) := by
    have := sgE_at first E 0
    rw [show first + ((0 : Nat) : Int) = first by omega] at this
    rw [this]; exact hd_beg h hb
  have hr := rowN_seg (P := notB (sgE first E)) first E.length (fun i h1 _ => by unfold notB; rw [sgE_at, others h hT i h1]; rfl)
  have hh := has_seg first E E.length (Nat.le_refl _)
  rw [List.take_length, hT, own_log] at hh
  unfold wholeF
  rw [h0, if_pos rfl, hr, hh, if_neg (by show ¬ ((l.length : Nat) : Int) < (cp : Int); omega)]
theorem whole_other {first : Int} {E : List WSeg} {cp : Nat} {l : List ByteArray} (h : HdA E cp) (hT : txtA E = hdP cp :: l.map tT) (i : Nat) (hi : 0 < i) (ys : List Int) : wholeF (sgE first E) (first + (i : Int)) ys = [] := by
  unfold wholeF; rw [sgE_at, others h hT i hi]; rfl
end Go.Proofs.YtfiplhnplmadmaaDoor

/- Package point: Open of a log that a crash left. Conditions: at most 800 calls. -/
namespace Go.Proofs.YtfiplhnplmadmaaDoor
open Go.RowKit Go.PlainAid Go.Shelf
set_option linter.unusedVariables false
theorem sgE_all {s : DkS} {first : Int} {E : List WSeg} {m : Nat} (h : WSt s first E []) (hI : DkI s m) (hm : m ≤ 900) (ht : (txtA E).length ≤ m) :
    (∀ k, SegOk (sgE first E k) ∧ datF s.fm k = (sgE first E k).b ∧ (sgE first E k).b.size ≤ 1000000000) ∧ ∀ k, (sgE first E k).T.length ≤ 1000000 := by
  have h0 : SegOk ⟨[], ⟨#[]⟩⟩ := segOk_whole (fun x hx => by cases hx)
  have hb : ∀ k, (getF s.fm k).1 = (sgE first E k).b.data.toList := fun k => by
    unfold getF; rw [h.on k]; unfold flW sgE
    by_cases hl : first ≤ k
    · rw [if_pos hl, if_pos hl]
      cases hA : (([] : List ByteArray).foldl appA E)[(k - first).toNat]? with
      | none => rw [show E[(k - first).toNat]? = none from hA]; rfl
      | some y => rw [show E[(k - first).toNat]? = some y from hA]; simp only [Option.isSome_some, if_true]; show bytA E _ = _; unfold bytA; rw [show E[(k - first).toNat]? = some y from hA]; rfl
    · rw [if_neg hl, if_neg hl]; rfl
  refine ⟨fun k => ⟨?_, ?_, ?_⟩, fun k => ?_⟩
  · unfold sgE; split
    · cases hA : E[(k - first).toNat]? with
      | none => exact h0
      | some y => exact h.ok y (List.mem_of_getElem? hA)
    · exact h0
  · unfold datF; rw [hb]
  · have h1 := hI.len k
    rw [hb, list_len] at h1
    omega
  · unfold sgE; split
    · cases hA : E[(k - first).toNat]? with
      | none => show 0 ≤ _; omega
      | some y =>
        have h1 : y.T.length ≤ (txtA E).length := by
          obtain ⟨l1, l2, e⟩ := List.append_of_mem (List.mem_of_getElem? hA)
          unfold txtA
          rw [e, List.flatMap_append, List.flatMap_cons, List.length_append, List.length_append]; omega
        show y.T.length ≤ _; omega
    · show 0 ≤ _; omega
theorem drop_none {s : DkS} {first : Int} {E : List WSeg} (h : WSt s first E []) : dropF (fun k => decide (first ≤ k) && decide (k < first + ((E.length : Nat) : Int))) s = s := by
  unfold dropF
  have : (fun k => if (decide (first ≤ k) && decide (k < first + ((E.length : Nat) : Int))) = true then s.fm k else none) = s.fm := by
    funext k
    split
    · rfl
    · rename_i hn
      cases hs : s.fm k with
      | none => rfl
      | some f =>
        exfalso; apply hn
        have h1 := h.on.keys k (by rw [hs]; rfl)
        rw [segN_mem] at h1
        have h2 : first ≤ k ∧ k < first + ((E.length : Nat) : Int) := ⟨by omega, by have : (([] : List ByteArray).foldl appA E).length = E.length := rfl; omega⟩
        rw [decide_eq_true h2.1, decide_eq_true h2.2]; rfl
  rw [this]
section
variable {base d m : Nat} {w x : World} {first : Int} {E : List WSeg} {cp : Nat} {l : List ByteArray}
set_option maxRecDepth 100000 in
set_option maxHeartbeats 4000000 in
theorem ptOpen (w : World) (h : WlO base w d m first E []) (hT : txtA E = hdP cp :: l.map tT) (hH : HdA E cp) (hc : cp ≤ l.length) (hm : m ≤ 800) (hf : first ≤ 1 + (m : Int) * 1000) (ht : Tab w) (hb : 0 < base) : Calls Tryd.prog 24 #[pt d 0] w fun e w' => ∃ p : Nat, e = .returned (.tuple #[pt p 0, .int .i64 0]) ∧ PtO base w' d m p l l.length cp E ∧ ButD base w w' := by
  obtain ⟨s, hX⟩ := h
  have hX : WlX base w d m first E [] s := hX
  have hln := hX.2.2.2.2.2.2.1
  have hl : l.length ≤ 900 := by rw [hT, List.length_cons, List.length_map, List.length_nil] at hln; omega
  have hEn : E.length ≤ 900 := by have := hX.2.2.2.2.2.1; simp only [List.length_nil] at this; omega
  have hE0 : 0 < E.length := by obtain ⟨y, r, h1, -⟩ := hH; exact (List.getElem?_eq_some_iff.1 h1).1 |> fun h => by omega
  obtain ⟨g1, g2⟩ := sgE_all hX.2.1 hX.2.2.1 (by omega) (by simp only [List.length_nil] at hln; omega)
  have hf1 := hX.2.2.2.2.2.2.2.1
  have hDs : DsO base d E.length s (sgE first E) w := ⟨hX.1, by omega, g1, g2, ht, hb⟩
  have hwf := whole_first (first := first) hH hT hc (by omega)
  have hwo := fun (i : Nat) (hi : 0 < i) (ys : List Int) => whole_other (first := first) hH hT i hi ys
  have hdn := drop_none hX.2.1
  have hps : s.ps.length = 0 := by rw [hX.2.1.ps]; rfl
  have HX := Lib.hid hX; have HDS := Lib.hid hDs; have HWF := Lib.hid hwf; have HWO := Lib.hid hwo; have HT := Lib.hid hT; have HTB := Lib.hid ht; have HDN := Lib.hid hdn; have HPS := Lib.hid hps; have HC := Lib.hid hc; have HM := Lib.hid hm; have HF := Lib.hid hf; have HF1 := Lib.hid hf1
  clear hX hDs hwf hwo hT ht hdn hps g1 g2 hln hc
  go_enter Tryd.func24, Tryd.ntmps24
  simp only [pt]
  go_wp2_with fail
  refine (tFiles w HX.out.1 (by show E.length ≤ _; omega)).mono ?_
  rintro e w1 ⟨ys, u, rfl, hr1, hK1, -, hD1, hb1⟩
  have hys : ys = segN first E.length := by
    have h9 := HX.out.2.1.logs.fil ⟨ys, hK1, Nat.le_refl _, rfl⟩
    rw [List.filter_eq_self.2 (fun z hz => by
      have h9 := HX.out.2.1.on.keys z ((hK1.2 z).1 hz)
      rw [segN_mem] at h9
      exact decide_eq_true (by omega))] at h9
    exact h9
  subst hys
  rw [segN_len] at hr1
  obtain ⟨n, hn⟩ : ∃ n, n = E.length := ⟨_, rfl⟩
  rw [← hn] at hr1 hEn hE0
  obtain ⟨ao, cap, rfl, -, -⟩ := row_view hr1
  have HD1 := Lib.hid (HDS.out.turn hD1 hb1); have HB1 := Lib.hid hb1; have HR1 := Lib.hid (row_lows hr1 (Nat.zero_le _) : w1.ownsRow 0 3 1 (.slice ao n cap) n ((segN first n).flatMap (intE .i64))); have HN := Lib.hid hn
  clear hr1 hK1 hD1 hb1 hn
  go_wp2_with fail
  go_loopg [17] (n + 1) (fun g s17 wr => ∃ i : Nat, s17 = .int .i64 i ∧ i < n ∧ n + 1 ≤ i + g ∧ Hid (wr.ownsRow 0 3 1 (.slice ao n cap) n ((segN first n).flatMap (intE .i64))) ∧ Hid (DsO base d E.length s (sgE first E) wr) ∧ Hid (ButD base w wr))
  case atStart => exact ⟨0, rfl, by omega, by omega, HR1, HD1, HB1⟩
  case round =>
    obtain ⟨i, rfl, hi, hg, HR, HD, HB⟩ := hrel
    obtain ⟨j, hj⟩ : ∃ j, j = n - 1 - i := ⟨_, rfl⟩
    have hjn : j < n := by omega
    obtain ⟨au, cu, e, -, hat⟩ := row_view HR.out
    cases e
    obtain ⟨g2, rfl, -, hg2⟩ := hat j hjn
    rw [flat_ints, List.getElem?_map, segN_get _ _ _ hjn] at hg2
    obtain ⟨q, hq⟩ : ∃ q : Int, q = first + (j : Int) := ⟨_, rfl⟩
    rw [← hq] at hg2
    replace hg2 : wr.cell? ⟨g2, j, none⟩ = some (.int .i64 q) := hg2
    have e1 : (n : Int) - 1 - (i : Int) = (j : Int) := by omega
    have hqr : 1 ≤ q ∧ q ≤ 2000000000 := by have := HF.out; have := HF1.out; have := HM.out; omega
    have HQ := Lib.hid hq; have HQR := Lib.hid hqr; have HJ := Lib.hid hj
    have hlt : i < n := hi
    clear hat hq hj
    go_wp2_with fail
    obtain ⟨bf, hbf⟩ : ∃ b, b = wr.heap.size := ⟨_, rfl⟩
    have hgB := World.grownBy_alloc wr (.cells #[.int .i64 q] 3) none
    have hxB : Boxed (wr.alloc (.cells #[.int .i64 q] 3)) wr.heap.size 3 (.int .i64 q) := Boxed.new wr _ _
    obtain ⟨wB, hwB⟩ : ∃ wB, wr.alloc (.cells #[.int .i64 q] 3) = wB := ⟨_, rfl⟩
    rw [hwB] at hgB hxB ⊢
    rw [← hbf] at hxB ⊢
    have HXB := Lib.hid hxB; have HDB := Lib.hid (HD.out.below (grown_below hgB)); have HBB := Lib.hid (butD_tr HB.out (But.of_below (grown_below hgB))); have HRB := Lib.hid (row_below HR.out (grown_below hgB))
    clear hwB hgB hxB hbf hg2
    refine (whole_any q (segN first n) _ 0 wB HDB.out HQR.out (by rw [segN_len]; omega) (by rw [segN_len]; exact HRB.out)).mono ?_
    rintro e w3 ⟨u3', rfl, hu, hD3, hb3⟩
    have HX3 := Lib.hid (boxD HXB.out int_off hb3); have HD3 := Lib.hid hD3; have HB3 := Lib.hid (butD_tr HBB.out hb3); have HR3 := Lib.hid (rowD HRB.out int_off hb3)
    clear hD3 hb3
    by_cases hj0 : j = 0
    · have hqf : q = first := by rw [HQ.out, hj0]; simp
      subst hqf
      have hw9 : wholeF (sgE q E) q (segN q n) = segN q n := by rw [HN.out]; exact HWF.out
      rw [hw9, segN_len] at hu
      obtain ⟨sa, cs, rfl, -, -⟩ := row_view hu
      have hn0 : ((n : Int) == 0) = false := by simp; omega
      clear hu hw9
      go_wp2_with fail
      obtain ⟨bs, hbs⟩ : ∃ b, b = w3.heap.size := ⟨_, rfl⟩
      have hgC := World.grownBy_alloc w3 (.cells #[.slice sa n cs] 53) none
      have hxC : Boxed (w3.alloc (.cells #[.slice sa n cs] 53)) w3.heap.size 53 (.slice sa n cs) := Boxed.new w3 _ _
      obtain ⟨wC, hwC⟩ : ∃ wC, w3.alloc (.cells #[.slice sa n cs] 53) = wC := ⟨_, rfl⟩
      rw [hwC] at hgC hxC ⊢
      rw [← hbs] at hxC ⊢
      have HXC := Lib.hid hxC; have HFC := Lib.hid (boxed_non HX3.out hgC (fun r e => nomatch e)); have HDC := Lib.hid (HD3.out.below (grown_below hgC)); have HBC := Lib.hid (butD_tr HB3.out (But.of_below (grown_below hgC)))
      clear hwC hgC hxC hbs
      refine (dropO_any bf bs q sa n cs wC HDC.out.obj HDC.out.c6 HPS.out HFC.out HXC.out HQR.out (by omega)).mono ?_
      rintro e w5 ⟨rfl, hD5, hb5⟩
      have hD5' : DObj base w5 d E.length s := by rw [HN.out, HDN.out] at hD5; exact hD5
      have HF5 := Lib.hid (boxD HFC.out int_off hb5); have HB5 := Lib.hid (butD_tr HBC.out hb5); have HW5 : Hid (WlO base w5 d m q E []) := Lib.hid ⟨s, hD5', HX.out.2⟩
      have k5 := HF5.out.cell
      clear hD5 hb5 hD5'
      go_wp2_with fail
      refine (wlOpen w5 HW5.out (by have := HM.out; omega) (tab_butD HTB.out HB5.out hb) hb).mono ?_
      rintro e w6 ⟨N, u6, rfl, hW6, -, h6, hb6⟩
      have HF6 := Lib.hid (boxD HF5.out int_off hb6); have HB6 := Lib.hid (butD_tr HB5.out hb6); have HW6 := Lib.hid hW6; have HO6 := Lib.hid h6
      have k6 := HF6.out.cell
      clear hW6 h6 hb6 k5
      simp only [pt]
      go_wp2
      have hg7 := World.grownBy_alloc w6 (.cells #[.bool true, .pointer (some ⟨d, 0, none⟩), .int .i64 q, .pointer (some ⟨N, 0, none⟩)] 61) none
      have hP := World.alloc_heap_new w6 (.cells #[.bool true, .pointer (some ⟨d, 0, none⟩), .int .i64 q, .pointer (some ⟨N, 0, none⟩)] 61)
      have hlo := HX.out.1.lo; have hsz6 := HB6.out.size
      go_ret2
      exact ⟨_, rfl, ⟨q, [], N, hP, HW6.out.kept hg7 (fun e => nomatch e), HO6.out.new hg7, by rw [List.take_length]; exact HT.out, by rw [List.drop_length]; rfl, HC.out, Nat.le_refl _, HF.out, by omega⟩, butD_tr HB6.out (But.of_below (grown_below hg7))⟩
    · have hw9 : wholeF (sgE first E) q (segN first n) = [] := by rw [HQ.out]; exact HWO.out j (by omega) _
      rw [hw9] at hu
      obtain ⟨sa, cs, rfl, -, -⟩ := row_view hu
      have hi1 : i + 1 < n := by have := HJ.out; omega
      have HI1 := Lib.hid hi1
      clear hu hw9 hi1
      go_wp2
      go_roundg (gk - 1)
      case rel => exact ⟨i + 1, by go_num, HI1.out, by omega, row_kept_new HR3.out (World.grownBy_alloc _ _ none), HD3.out.below (grown_below (World.grownBy_alloc _ _ none)), butD_tr HB3.out (But.of_below (grown_below (World.grownBy_alloc _ _ none)))⟩
      case measure => omega
end
end Go.Proofs.YtfiplhnplmadmaaDoor

/- catenalaw13: short. Conditions: none. -/
namespace Go.Proofs.YtfiplhnplmadmaaDoor
open Go.RowKit Go.PlainAid
set_option linter.unusedVariables false
set_option linter.unusedSimpArgs false


def okP (a : PActT) : Prop := a.s.size ≤ 300 ∧ a.l.length ≤ 10 ∧ ∀ z ∈ a.l, z.size ≤ 300
instance (a : PActT) : Decidable (okP a) := by unfold okP; infer_instance
def shortP (l : List PActT) : Bool := (l.take 30).all fun a => decide (okP a)
def shT (l : List PActT) (i : Nat) : Prop := ∀ j, j < i → ∀ y, l[j]? = some y → okP y
def inT (l : List PActT) (i j : Nat) : Prop := ∀ y, l[i]? = some y → ∀ k, k < j → ∀ z, y.l[k]? = some z → z.size ≤ 300
theorem shT_0 (l : List PActT) : shT l 0 := fun j hj => by omega
theorem inT_0 (l : List PActT) (i : Nat) : inT l i 0 := fun y _ k hk => by omega
theorem inT_next {l : List PActT} {i j : Nat} {y : PActT} {z : ByteArray} (h : inT l i j) (hy : l[i]? = some y) (hz : y.l[j]? = some z) (hs : z.size ≤ 300) : inT l i (j + 1) := fun y2 h2 k hk z2 hz2 => by
  rw [hy] at h2; cases h2
  by_cases e : k = j
  · subst e; rw [hz] at hz2; cases hz2; exact hs
  · exact h y hy k (by omega) z2 hz2
theorem shT_next {l : List PActT} {i j : Nat} {y : PActT} (h : shT l i) (hy : l[i]? = some y) (h1 : y.s.size ≤ 300) (h2 : y.l.length ≤ 10) (hi : inT l i j) (hj : y.l.length ≤ j) : shT l (i + 1) := fun k hk y2 hy2 => by
  by_cases e : k = i
  · subst e; rw [hy] at hy2; cases hy2
    refine ⟨h1, h2, fun z hz => ?_⟩
    obtain ⟨q, hq⟩ := List.getElem?_of_mem hz
    exact hi y hy q (by have := (List.getElem?_eq_some_iff.1 hq).1; omega) z hq
  · exact h k (by omega) y2 hy2
theorem shortP_y {l : List PActT} {i : Nat} (h : shT l i) (hi : l.length ≤ i ∨ 30 ≤ i) : true = shortP l := by
  unfold shortP; symm; rw [List.all_eq_true]
  intro a ha
  obtain ⟨j, hj⟩ := List.getElem?_of_mem ha
  rw [List.getElem?_take] at hj
  by_cases h4 : j < 30
  · rw [if_pos h4] at hj
    have hl := (List.getElem?_eq_some_iff.1 hj).1
    exact decide_eq_true (h j (by omega) a hj)
  · rw [if_neg h4] at hj; cases hj
theorem shortP_n {l : List PActT} {i : Nat} {y : PActT} (hy : l[i]? = some y) (h4 : i < 30) (hs : ¬ okP y) : false = shortP l := by
  unfold shortP; symm; rw [List.all_eq_false]
  exact ⟨y, List.mem_of_getElem? (i := i) (by rw [List.getElem?_take, if_pos h4]; exact hy), by simpa using hs⟩
theorem shortP_s {l : List PActT} {i : Nat} {y : PActT} (hy : l[i]? = some y) (h4 : i < 30) (hs : 300 < y.s.size) : false = shortP l := shortP_n hy h4 (fun h => by have := h.1; omega)
theorem shortP_l {l : List PActT} {i : Nat} {y : PActT} (hy : l[i]? = some y) (h4 : i < 30) (hs : 10 < y.l.length) : false = shortP l := shortP_n hy h4 (fun h => by have := h.2.1; omega)
theorem shortP_z {l : List PActT} {i j : Nat} {y : PActT} {z : ByteArray} (hy : l[i]? = some y) (h4 : i < 30) (hz : y.l[j]? = some z) (hs : 300 < z.size) : false = shortP l := shortP_n hy h4 (fun h => by have := h.2.2 z (List.mem_of_getElem? hz); omega)
theorem short_okP {l : List PActT} (h : shortP l = true) {i : Nat} {y : PActT} (hy : l[i]? = some y) (h4 : i < 30) : okP y := by
  unfold shortP at h; rw [List.all_eq_true] at h
  have := h y (List.mem_of_getElem? (i := i) (by rw [List.getElem?_take, if_pos h4]; exact hy))
  simpa using this

set_option maxRecDepth 100000 in
theorem short13_any (v : Value) (l : List PActT) (w : World) (hs : SliceOf pactE 4 w v l) (hok : ∀ z ∈ l, PActS w z) :
    Calls Tryd.prog 18 #[v] w fun e w' => e = .returned (.bool (shortP l)) ∧ Below w.heap.size w w' := by
 have hB0 := Below.refl w.heap.size w
 have hl_hs := sl_len hs
 refine co_enter (n := 51) Tryd.func18 rfl rfl rfl [(0, v)] rfl (fun a h0 => ?_)
 refine co_seq ?_
 refine co_reg ?_
 refine pk0 (v := .bool false) h0 rfl fun a1 h1 => ?_; clear h0
 refine pl_nil ?_
 refine co_then ?_
 refine co_seq ?_
 refine co_seq ?_
 refine co_reg ?_
 refine pk0 (v := .int .i64 0) h1 rfl fun a2 h2 => ?_; clear h1
 refine pl_nil ?_
 refine co_then ?_
 refine wp_block ?_
 have h3 : Slots 51 [(0, v), (3, .int .i64 0)] _ := h2.sub ⟨rfl, rfl, trivial⟩; clear h2
 refine co_loop (fun mm a x => ∃ (i : Nat), Slots 51 [(0, v), (3, .int .i64 ((i : Nat) : Int))] a ∧ mm = l.length - i ∧ (i ≤ l.length) ∧ (i ≤ 30) ∧ (shT l i) ∧ Below w.heap.size w x) (l.length - 0) ?_ ?_
 · exact ⟨0, h3.sub ⟨rfl, (slot_eq rfl (congrArg (Value.int .i64) (by first | rfl | omega))), trivial⟩, rfl, by omega, by omega, by first | exact shT_0 _ | exact shT_next (by assumption) (by assumption) (by omega) (by omega) (by assumption) (by omega), hB0⟩
 · rintro k4 a5 w6 ⟨i, h5, rfl, hi7, hi8, hi9, hB10⟩
   have hz11 := hB10.size
   refine co_seq ?_
   refine co_seq ?_
   refine co_reg ?_
   refine pk0 (v := .int .i64 ((i : Nat) : Int)) h5 rfl fun a12 h12 => ?_; clear h5
   refine pk0 (v := v) h12 rfl fun a13 h13 => ?_; clear h12
   refine pk (v := .int .i64 ((l.length : Nat) : Int)) h13 rfl (rn_len rfl rfl Tryd.underlying43 (hs.below hB10)) fun a14 h14 => ?_; clear h13
   refine pk0 (v := .bool (decide (((i : Nat) : Int) < ((l.length : Nat) : Int)))) h14 rfl fun a15 h15 => ?_; clear h14
   refine pk0 (v := .bool (decide (((i : Nat) : Int) < ((l.length : Nat) : Int)))) h15 rfl fun a16 h16 => ?_; clear h15
   cases hc17 : (decide (((i : Nat) : Int) < ((l.length : Nat) : Int)))
   ·
    rw [hc17] at h16
    have hp18 : ¬ (((i : Nat) : Int) < ((l.length : Nat) : Int)) := of_decide_eq_false hc17
    clear hc17
    refine psk h16 rfl fun a19 h19 => ?_; clear h16
    refine psk h19 rfl fun a20 h20 => ?_; clear h19
    refine pk0 (v := .bool false) h20 rfl fun a21 h21 => ?_; clear h20
    refine pl_nil ?_
    refine co_then ?_
    refine co_false h21 rfl ?_
    refine wp_exit ?_
    refine co_thenX ?_
    refine co_thenX ?_
    refine co_blockX ?_
    refine co_then ?_
    refine co_seq ?_
    refine co_reg ?_
    refine pk0 (v := .bool true) h21 rfl fun a22 h22 => ?_; clear h21
    refine pl_nil ?_
    refine co_then ?_
    refine wp_ret ?_
    refine co_ret1 h22 rfl rfl ?_
    exact ⟨ret_bool (by first | exact shortP_y (by assumption) (by omega) | exact shortP_s (by assumption) (by omega) (by omega) | exact shortP_l (by assumption) (by omega) (by omega) | exact shortP_z (by assumption) (by omega) (by assumption) (by omega)), hB10⟩
   ·
    rw [hc17] at h16
    have hp23 : ((i : Nat) : Int) < ((l.length : Nat) : Int) := of_decide_eq_true hc17
    clear hc17
    refine pk0 (v := .int .i64 ((i : Nat) : Int)) h16 rfl fun a24 h24 => ?_; clear h16
    refine pk0 (v := .bool (decide (((i : Nat) : Int) < 30))) h24 rfl fun a25 h25 => ?_; clear h24
    refine pk0 (v := .bool (decide (((i : Nat) : Int) < 30))) h25 rfl fun a26 h26 => ?_; clear h25
    refine pl_nil ?_
    refine co_then ?_
    cases hc27 : (decide (((i : Nat) : Int) < 30))
    ·
     rw [hc27] at h26
     have hp28 : ¬ (((i : Nat) : Int) < 30) := of_decide_eq_false hc27
     clear hc27
     refine co_false h26 rfl ?_
     refine wp_exit ?_
     refine co_thenX ?_
     refine co_thenX ?_
     refine co_blockX ?_
     refine co_then ?_
     refine co_seq ?_
     refine co_reg ?_
     refine pk0 (v := .bool true) h26 rfl fun a29 h29 => ?_; clear h26
     refine pl_nil ?_
     refine co_then ?_
     refine wp_ret ?_
     refine co_ret1 h29 rfl rfl ?_
     exact ⟨ret_bool (by first | exact shortP_y (by assumption) (by omega) | exact shortP_s (by assumption) (by omega) (by omega) | exact shortP_l (by assumption) (by omega) (by omega) | exact shortP_z (by assumption) (by omega) (by assumption) (by omega)), hB10⟩
    ·
     rw [hc27] at h26
     have hp30 : ((i : Nat) : Int) < 30 := of_decide_eq_true hc27
     clear hc27
     refine co_true h26 rfl ?_
     refine wp_skip ?_
     refine co_then ?_
     refine co_seq ?_
     refine wp_block ?_
     refine co_seq ?_
     refine co_seq ?_
     refine co_reg ?_
     refine pk0 (v := v) h26 rfl fun a31 h31 => ?_; clear h26
     refine pk0 (v := .int .i64 ((i : Nat) : Int)) h31 rfl fun a32 h32 => ?_; clear h31
     obtain ⟨y33, hy33⟩ : ∃ z, l[i]? = some z := ⟨_, List.getElem?_eq_getElem (by first | omega | (simp; done) | (simp; omega))⟩
     have oky33 := hok _ (List.mem_of_getElem? hy33)
     have hlay33 := lenAt_eq hy33
     refine pk (v := pt (blkOf v) (offOf v + i * 4)) h32 rfl (rn_index rfl rfl rfl Tryd.underlying43 Tryd.sizeOf49 (hs.below hB10) (by omega) (by first | omega | (simp; done) | (simp; omega))) fun a34 h34 => ?_; clear h32
     refine pk0 (v := pt (blkOf v) (offOf v + i * 4 + 1)) h34 rfl fun a35 h35 => ?_; clear h34
     refine pk (v := .string y33.s) h35 rfl (rn_load1 rfl rfl Tryd.isAgg9 ((sl_at (hs.below hB10) hy33) 1 _ rfl)) fun a36 h36 => ?_; clear h35
     refine pk (v := .int .i64 ((y33.s.size : Nat) : Int)) h36 rfl (rn_lenStr rfl rfl Tryd.underlying9) fun a37 h37 => ?_; clear h36
     refine pk0 (v := .bool (decide (((y33.s.size : Nat) : Int) > 300))) h37 rfl fun a38 h38 => ?_; clear h37
     refine pk0 (v := .bool (decide (((y33.s.size : Nat) : Int) > 300))) h38 rfl fun a39 h39 => ?_; clear h38
     cases hc40 : (decide (((y33.s.size : Nat) : Int) > 300))
     ·
      rw [hc40] at h39
      have hp41 : ¬ (((y33.s.size : Nat) : Int) > 300) := of_decide_eq_false hc40
      clear hc40
      refine pk0 (v := v) h39 rfl fun a42 h42 => ?_; clear h39
      refine pk0 (v := .int .i64 ((i : Nat) : Int)) h42 rfl fun a43 h43 => ?_; clear h42
      refine pk (v := pt (blkOf v) (offOf v + i * 4)) h43 rfl (rn_index rfl rfl rfl Tryd.underlying43 Tryd.sizeOf49 (hs.below hB10) (by omega) (by first | omega | (simp; done) | (simp; omega))) fun a44 h44 => ?_; clear h43
      refine pk0 (v := pt (blkOf v) (offOf v + i * 4 + 2)) h44 rfl fun a45 h45 => ?_; clear h44
      refine pk (v := y33.lv) h45 rfl (rn_load1 rfl rfl Tryd.isAgg28 ((sl_at (hs.below hB10) hy33) 2 _ rfl)) fun a46 h46 => ?_; clear h45
      refine pk (v := .int .i64 ((y33.l.length : Nat) : Int)) h46 rfl (rn_len rfl rfl Tryd.underlying28 (oky33.sl.below hB10)) fun a47 h47 => ?_; clear h46
      refine pk0 (v := .bool (decide (((y33.l.length : Nat) : Int) > 10))) h47 rfl fun a48 h48 => ?_; clear h47
      refine pk0 (v := .bool (decide (((y33.l.length : Nat) : Int) > 10))) h48 rfl fun a49 h49 => ?_; clear h48
      refine pl_nil ?_
      refine co_then ?_
      cases hc50 : (decide (((y33.l.length : Nat) : Int) > 10))
      ·
       rw [hc50] at h49
       have hp51 : ¬ (((y33.l.length : Nat) : Int) > 10) := of_decide_eq_false hc50
       clear hc50
       refine co_false h49 rfl ?_
       refine wp_skip ?_
       refine co_then ?_
       refine co_seq ?_
       refine co_reg ?_
       refine pk0 (v := .int .i64 0) h49 rfl fun a52 h52 => ?_; clear h49
       refine pl_nil ?_
       refine co_then ?_
       refine wp_block ?_
       have h53 : Slots 51 [(0, v), (3, .int .i64 ((i : Nat) : Int)), (4, .int .i64 0)] _ := h52.sub ⟨rfl, rfl, rfl, trivial⟩; clear h52
       refine co_loop (fun mm a x => ∃ (j : Nat), Slots 51 [(0, v), (3, .int .i64 ((i : Nat) : Int)), (4, .int .i64 ((j : Nat) : Int))] a ∧ mm = lenAt l i - j ∧ (j ≤ lenAt l i) ∧ (inT l i j) ∧ Below w.heap.size w x) (lenAt l i - 0) ?_ ?_
       · exact ⟨0, h53.sub ⟨rfl, rfl, (slot_eq rfl (congrArg (Value.int .i64) (by first | rfl | omega))), trivial⟩, rfl, by omega, by first | exact inT_0 _ _ | exact inT_next (by assumption) (by assumption) (by assumption) (by omega), hB10⟩
       · rintro k54 a55 w56 ⟨j, h55, rfl, hi57, hi58, hB59⟩
         have hz60 := hB59.size
         refine co_seq ?_
         refine co_seq ?_
         refine co_reg ?_
         refine pk0 (v := .int .i64 ((j : Nat) : Int)) h55 rfl fun a61 h61 => ?_; clear h55
         refine pk0 (v := v) h61 rfl fun a62 h62 => ?_; clear h61
         refine pk0 (v := .int .i64 ((i : Nat) : Int)) h62 rfl fun a63 h63 => ?_; clear h62
         refine pk (v := pt (blkOf v) (offOf v + i * 4)) h63 rfl (rn_index rfl rfl rfl Tryd.underlying43 Tryd.sizeOf49 (hs.below hB59) (by omega) (by first | omega | (simp; done) | (simp; omega))) fun a64 h64 => ?_; clear h63
         refine pk0 (v := pt (blkOf v) (offOf v + i * 4 + 2)) h64 rfl fun a65 h65 => ?_; clear h64
         refine pk (v := y33.lv) h65 rfl (rn_load1 rfl rfl Tryd.isAgg28 ((sl_at (hs.below hB59) hy33) 2 _ rfl)) fun a66 h66 => ?_; clear h65
         refine pk (v := .int .i64 ((y33.l.length : Nat) : Int)) h66 rfl (rn_len rfl rfl Tryd.underlying28 (oky33.sl.below hB59)) fun a67 h67 => ?_; clear h66
         refine pk0 (v := .bool (decide (((j : Nat) : Int) < ((y33.l.length : Nat) : Int)))) h67 rfl fun a68 h68 => ?_; clear h67
         refine pl_nil ?_
         refine co_then ?_
         cases hc69 : (decide (((j : Nat) : Int) < ((y33.l.length : Nat) : Int)))
         ·
          rw [hc69] at h68
          have hp70 : ¬ (((j : Nat) : Int) < ((y33.l.length : Nat) : Int)) := of_decide_eq_false hc69
          clear hc69
          refine co_false h68 rfl ?_
          refine wp_exit ?_
          refine co_thenX ?_
          refine co_thenX ?_
          refine co_blockX ?_
          refine co_blockN ?_
          refine co_then ?_
          refine co_reg ?_
          refine pk0 (v := .int .i64 ((i : Nat) : Int)) h68 rfl fun a71 h71 => ?_; clear h68
          refine pk (v := .int .i64 ((i + 1 : Nat) : Int)) h71 rfl (rn_arith' rfl rfl rfl rfl rfl rfl (IntWalk.i64_in _ (by omega)) (by omega)) fun a72 h72 => ?_; clear h71
          refine pk0 (v := .int .i64 ((i + 1 : Nat) : Int)) h72 rfl fun a73 h73 => ?_; clear h72
          refine pl_nil ?_
          refine co_then ?_
          refine ⟨(l.length - (i + 1)), by omega, ?_⟩
          exact ⟨i + 1, h73.sub ⟨rfl, rfl, trivial⟩, rfl, by omega, by omega, by first | exact shT_0 _ | exact shT_next (by assumption) (by assumption) (by omega) (by omega) (by assumption) (by omega), hB59⟩
         ·
          rw [hc69] at h68
          have hp74 : ((j : Nat) : Int) < ((y33.l.length : Nat) : Int) := of_decide_eq_true hc69
          clear hc69
          refine co_true h68 rfl ?_
          refine wp_skip ?_
          refine co_then ?_
          refine co_seq ?_
          refine wp_block ?_
          refine co_seq ?_
          refine co_reg ?_
          refine pk0 (v := v) h68 rfl fun a75 h75 => ?_; clear h68
          refine pk0 (v := .int .i64 ((i : Nat) : Int)) h75 rfl fun a76 h76 => ?_; clear h75
          refine pk (v := pt (blkOf v) (offOf v + i * 4)) h76 rfl (rn_index rfl rfl rfl Tryd.underlying43 Tryd.sizeOf49 (hs.below hB59) (by omega) (by first | omega | (simp; done) | (simp; omega))) fun a77 h77 => ?_; clear h76
          refine pk0 (v := pt (blkOf v) (offOf v + i * 4 + 2)) h77 rfl fun a78 h78 => ?_; clear h77
          refine pk (v := y33.lv) h78 rfl (rn_load1 rfl rfl Tryd.isAgg28 ((sl_at (hs.below hB59) hy33) 2 _ rfl)) fun a79 h79 => ?_; clear h78
          refine pk0 (v := .int .i64 ((j : Nat) : Int)) h79 rfl fun a80 h80 => ?_; clear h79
          obtain ⟨y81, hy81⟩ : ∃ z, y33.l[j]? = some z := ⟨_, List.getElem?_eq_getElem (by first | omega | (simp; done) | (simp; omega))⟩
          refine pk (v := pt (blkOf (y33.lv)) (offOf (y33.lv) + j * 1)) h80 rfl (rn_index rfl rfl rfl Tryd.underlying28 Tryd.sizeOf9 (oky33.sl.below hB59) (by omega) (by first | omega | (simp; done) | (simp; omega))) fun a82 h82 => ?_; clear h80
          refine pk (v := .string y81) h82 rfl (rn_load1 rfl rfl Tryd.isAgg9 ((sl_at (oky33.sl.below hB59) hy81) 0 _ rfl)) fun a83 h83 => ?_; clear h82
          refine pk (v := .int .i64 ((y81.size : Nat) : Int)) h83 rfl (rn_lenStr rfl rfl Tryd.underlying9) fun a84 h84 => ?_; clear h83
          refine pk0 (v := .bool (decide (((y81.size : Nat) : Int) > 300))) h84 rfl fun a85 h85 => ?_; clear h84
          refine pl_nil ?_
          refine co_then ?_
          cases hc86 : (decide (((y81.size : Nat) : Int) > 300))
          ·
           rw [hc86] at h85
           have hp87 : ¬ (((y81.size : Nat) : Int) > 300) := of_decide_eq_false hc86
           clear hc86
           refine co_false h85 rfl ?_
           refine wp_skip ?_
           refine co_blockN ?_
           refine co_then ?_
           refine co_reg ?_
           refine pk0 (v := .int .i64 ((j : Nat) : Int)) h85 rfl fun a88 h88 => ?_; clear h85
           refine pk (v := .int .i64 ((j + 1 : Nat) : Int)) h88 rfl (rn_arith' rfl rfl rfl rfl rfl rfl (IntWalk.i64_in _ (by omega)) (by omega)) fun a89 h89 => ?_; clear h88
           refine pk0 (v := .int .i64 ((j + 1 : Nat) : Int)) h89 rfl fun a90 h90 => ?_; clear h89
           refine pl_nil ?_
           refine co_then ?_
           refine ⟨(lenAt l i - (j + 1)), by omega, ?_⟩
           exact ⟨j + 1, h90.sub ⟨rfl, rfl, rfl, trivial⟩, rfl, by omega, by first | exact inT_0 _ _ | exact inT_next (by assumption) (by assumption) (by assumption) (by omega), hB59⟩
          ·
           rw [hc86] at h85
           have hp91 : ((y81.size : Nat) : Int) > 300 := of_decide_eq_true hc86
           clear hc86
           refine co_true h85 rfl ?_
           refine co_seq ?_
           refine co_reg ?_
           refine pk0 (v := .bool false) h85 rfl fun a92 h92 => ?_; clear h85
           refine pl_nil ?_
           refine co_then ?_
           refine wp_ret ?_
           refine co_blockR ?_
           refine co_thenR ?_
           refine co_thenR ?_
           refine co_blockR ?_
           refine co_blockR ?_
           refine co_thenR ?_
           refine co_thenR ?_
           refine co_blockR ?_
           refine co_thenR ?_
           refine co_ret1 h92 rfl rfl ?_
           exact ⟨ret_bool (by first | exact shortP_y (by assumption) (by omega) | exact shortP_s (by assumption) (by omega) (by omega) | exact shortP_l (by assumption) (by omega) (by omega) | exact shortP_z (by assumption) (by omega) (by assumption) (by omega)), hB59⟩
      ·
       rw [hc50] at h49
       have hp93 : ((y33.l.length : Nat) : Int) > 10 := of_decide_eq_true hc50
       clear hc50
       refine co_true h49 rfl ?_
       refine co_seq ?_
       refine co_reg ?_
       refine pk0 (v := .bool false) h49 rfl fun a94 h94 => ?_; clear h49
       refine pl_nil ?_
       refine co_then ?_
       refine wp_ret ?_
       refine co_thenR ?_
       refine co_blockR ?_
       refine co_thenR ?_
       refine co_thenR ?_
       refine co_blockR ?_
       refine co_thenR ?_
       refine co_ret1 h94 rfl rfl ?_
       exact ⟨ret_bool (by first | exact shortP_y (by assumption) (by omega) | exact shortP_s (by assumption) (by omega) (by omega) | exact shortP_l (by assumption) (by omega) (by omega) | exact shortP_z (by assumption) (by omega) (by assumption) (by omega)), hB10⟩
     ·
      rw [hc40] at h39
      have hp95 : ((y33.s.size : Nat) : Int) > 300 := of_decide_eq_true hc40
      clear hc40
      refine psk h39 rfl fun a96 h96 => ?_; clear h39
      refine psk h96 rfl fun a97 h97 => ?_; clear h96
      refine psk h97 rfl fun a98 h98 => ?_; clear h97
      refine psk h98 rfl fun a99 h99 => ?_; clear h98
      refine psk h99 rfl fun a100 h100 => ?_; clear h99
      refine psk h100 rfl fun a101 h101 => ?_; clear h100
      refine psk h101 rfl fun a102 h102 => ?_; clear h101
      refine pk0 (v := .bool true) h102 rfl fun a103 h103 => ?_; clear h102
      refine pl_nil ?_
      refine co_then ?_
      refine co_true h103 rfl ?_
      refine co_seq ?_
      refine co_reg ?_
      refine pk0 (v := .bool false) h103 rfl fun a104 h104 => ?_; clear h103
      refine pl_nil ?_
      refine co_then ?_
      refine wp_ret ?_
      refine co_thenR ?_
      refine co_blockR ?_
      refine co_thenR ?_
      refine co_thenR ?_
      refine co_blockR ?_
      refine co_thenR ?_
      refine co_ret1 h104 rfl rfl ?_
      exact ⟨ret_bool (by first | exact shortP_y (by assumption) (by omega) | exact shortP_s (by assumption) (by omega) (by omega) | exact shortP_l (by assumption) (by omega) (by omega) | exact shortP_z (by assumption) (by omega) (by assumption) (by omega)), hB10⟩
end Go.Proofs.YtfiplhnplmadmaaDoor

/- Package point: a point and a crashed disk, with nothing told of their files. Conditions: at most 500 calls. -/
namespace Go.Proofs.YtfiplhnplmadmaaDoor
open Go.RowKit Go.PlainAid Go.Shelf
set_option linter.unusedVariables false
structure PActO (w : World) (a : PActT) : Prop where
  sl : SliceOf strE 1 w a.lv a.l
  lo : -9223372036854775808 ≤ a.n
  hi : a.n ≤ 9223372036854775807
def PkO (base : Nat) (w : World) (d m p : Nat) (L : List ByteArray) (sure cp : Nat) : Prop := ∃ A, PtO base w d m p L sure cp A ∧ HdA A cp
/-- A disk that a crash left: a point of texts L is on it. -/
def CrO (base : Nat) (w : World) (d m : Nat) (L : List ByteArray) (cp : Nat) : Prop := ∃ (first : Int) (E : List WSeg), WlO base w d m first E [] ∧ txtA E = hdP cp :: L.map tT ∧ HdA E cp ∧ cp ≤ L.length ∧ first ≤ 1 + (m : Int) * 1000
section
variable {base d m p : Nat} {L : List ByteArray} {sure cp : Nat} {w x : World}
theorem PkO.call (h : PkO base w d m p L sure cp) (hb : Below w.heap.size w x) : PkO base x d m p L sure cp := by obtain ⟨A, h1, h2⟩ := h; exact ⟨A, h1.call hb, h2⟩
theorem PkO.new (h : PkO base w d m p L sure cp) (hg : w.grownBy x none) : PkO base x d m p L sure cp := by obtain ⟨A, h1, h2⟩ := h; exact ⟨A, h1.new hg, h2⟩
theorem PkO.row {B sz k : Nat} {e : TypeId} {v : Value} {ys : List Value} (h : PkO base w d m p L sure cp) (hr : w.ownsRow B e sz v k ys) (hT : offD e) (hP : e ≠ 61) (hW : e ≠ 41) (hg : w.grownBy x v.ownBlock) : PkO base x d m p L sure cp := by obtain ⟨A, h1, h2⟩ := h; exact ⟨A, h1.row hr hT hP hW hg, h2⟩
theorem PkO.up {m' : Nat} (h : PkO base w d m p L sure cp) (hm : m ≤ m') : PkO base w d m' p L sure cp := by obtain ⟨A, h1, h2⟩ := h; exact ⟨A, h1.up hm, h2⟩
theorem PkO.eq {L' : List ByteArray} {s' : Nat} (h : PkO base w d m p L sure cp) (e1 : L = L') (e2 : sure = s') : PkO base w d m p L' s' cp := by subst e1 e2; exact h
theorem PkO.len (h : PkO base w d m p L sure cp) : L.length ≤ m ∧ sure ≤ L.length ∧ cp ≤ sure := by obtain ⟨A, h1, h2⟩ := h; exact h1.len
theorem PkO.blk (h : PkO base w d m p L sure cp) : ∃ cs, Blk w p 61 cs := by obtain ⟨A, h1, h2⟩ := h; exact h1.blk
theorem PkO.lo (h : PkO base w d m p L sure cp) : base ≤ p := by obtain ⟨A, h1, h2⟩ := h; exact h1.lo
theorem CrO.call (h : CrO base w d m L cp) (hb : Below w.heap.size w x) : CrO base x d m L cp := by obtain ⟨f, E, h1, h2⟩ := h; exact ⟨f, E, h1.call hb, h2⟩
theorem CrO.new (h : CrO base w d m L cp) (hg : w.grownBy x none) : CrO base x d m L cp := by obtain ⟨f, E, h1, h2⟩ := h; exact ⟨f, E, h1.new hg, h2⟩
theorem CrO.row {B sz k : Nat} {e : TypeId} {v : Value} {ys : List Value} (h : CrO base w d m L cp) (hr : w.ownsRow B e sz v k ys) (hT : offD e) (hP : e ≠ 61) (hW : e ≠ 41) (hg : w.grownBy x v.ownBlock) : CrO base x d m L cp := by obtain ⟨f, E, h1, h2⟩ := h; exact ⟨f, E, h1.row hr hT hg, h2⟩
theorem pkNew (w : World) (h : WlO base w d 0 1 [] []) (ht : Tab w) (hb : 0 < base) : Calls Tryd.prog 20 #[pt d 0] w fun e w' => ∃ p : Nat, e = .returned (.tuple #[pt p 0, .int .i64 0]) ∧ PkO base w' d 1 p [] 0 0 ∧ ButD base w w' :=
  (ptNew w h ht hb).mono fun e x ⟨p, h1, h2, h3⟩ => ⟨p, h1, ⟨_, h2, hd_new 0 []⟩, h3⟩
theorem pkAppend (w : World) (t : ByteArray) (h : PkO base w d m p L sure cp) (hm : m ≤ 800) (ht : Tab w) (hb : 0 < base) (hsz : t.size ≤ 60000) : Calls Tryd.prog 21 #[pt p 0, .string t] w fun e w' => e = .returned (.int .i64 0) ∧ PkO base w' d (m + 1) p (L ++ [t]) sure cp ∧ ButD base w w' := by
  obtain ⟨A, h1, h2⟩ := h
  exact (ptAppend w t h1 hm ht hb hsz).mono fun e x ⟨k1, k2, k3⟩ => ⟨k1, ⟨_, k2, h2⟩, k3⟩
theorem pkSync (w : World) (h : PkO base w d m p L sure cp) (hm : m ≤ 900) : Calls Tryd.prog 22 #[pt p 0] w fun e w' => ∃ k : Int, e = .returned (.int .i64 k) ∧ PkO base w' d (m + 1) p L L.length cp ∧ ButD base w w' := by
  obtain ⟨A, h1, h2⟩ := h
  exact (ptSync w h1 hm).mono fun e x ⟨k, k1, k2, k3⟩ => ⟨k, k1, ⟨_, k2, h2.run _⟩, k3⟩
theorem pkTexts (w : World) (h : PkO base w d m p L sure cp) (hm : m ≤ 900) (ht : Tab w) (hb : 0 < base) : Calls Tryd.prog 23 #[pt p 0] w fun e w' => ∃ u : Value, e = .returned u ∧ w'.ownsRow w.heap.size 9 1 u L.length (L.flatMap strE) ∧ PkO base w' d m p L sure cp ∧ ButD base w w' := by
  obtain ⟨A, h1, h2⟩ := h
  exact (ptTexts w h1 hm ht hb).mono fun e x ⟨u, k1, k2, k3, k4⟩ => ⟨u, k1, k2, ⟨_, k3, h2⟩, k4⟩
theorem pkSave (v : Value) (l : List ByteArray) (w : World) (h : PkO base w d m p L sure cp) (hs : ∀ X, ButD base w X → SliceOf strE 1 X v l) (hl : l.length + m ≤ 500) (hsz : ∀ z ∈ l, z.size ≤ 60000) (ht : Tab w) (hb : 0 < base) : Calls Tryd.prog 25 #[pt p 0, v] w fun e w' => e = .returned (.int .i64 0) ∧ PkO base w' d (m + l.length + 1) p l l.length l.length ∧ ButP base p w w' := by
  obtain ⟨A, h1, h2⟩ := h
  exact (ptSave v l w h1 hs hl hsz ht hb).mono fun e x ⟨k1, k2, k3⟩ => ⟨k1, ⟨_, k2, hd_new _ _⟩, k3⟩
theorem pkCrash (w : World) (n : Int) (hn : -9223372036854775808 ≤ n ∧ n ≤ 9223372036854775807) (h : PkO base w d m p L sure cp) (hm : m ≤ 900) : Calls Tryd.prog 14 #[pt d 0, .int .i64 n] w fun e w' => ∃ k : Nat, e = .returned (.tuple #[]) ∧ (sure ≤ k ∧ k ≤ L.length) ∧ CrO base w' d (m + 1) (L.take k) cp ∧ ButD base w w' := by
  obtain ⟨A, h1, h2⟩ := h
  have hl := h1.len
  exact (ptCrash w n hn h1 h2 hm).mono fun e x ⟨k, E, f, k1, k2, k3, k4, k5, k6, k7⟩ => ⟨k, k1, k2, ⟨f, E, k5, k3, k4, by rw [List.length_take]; omega, by omega⟩, k7⟩
theorem pkOpen (w : World) (h : CrO base w d m L cp) (hm : m ≤ 800) (ht : Tab w) (hb : 0 < base) : Calls Tryd.prog 24 #[pt d 0] w fun e w' => ∃ p : Nat, e = .returned (.tuple #[pt p 0, .int .i64 0]) ∧ PkO base w' d m p L L.length cp ∧ ButD base w w' := by
  obtain ⟨f, E, h1, h2, h3, h4, h5⟩ := h
  exact (ptOpen w h1 h2 h3 h4 hm h5 ht hb).mono fun e x ⟨p, k1, k2, k3⟩ => ⟨p, k1, ⟨_, k2, h3⟩, k3⟩
end
end Go.Proofs.YtfiplhnplmadmaaDoor

/- catenalaw13: PointKeeps. Conditions: a laid table. -/
namespace Go.Proofs.YtfiplhnplmadmaaDoor
open Go.RowKit Go.PlainAid
set_option linter.unusedVariables false
set_option linter.unusedSimpArgs false

set_option maxRecDepth 100000 in
set_option maxHeartbeats 6400000 in
theorem pointKeeps_law (v : Value) (l : List PActT) (w : World) (ht : Tab w) (hs : SliceOf pactE 4 w v l) (hok : ∀ z ∈ l, PActO w z) :
    Calls Tryd.prog 5 #[v] w fun e w' => e = .returned (.bool true) ∧ Below w.heap.size w w' := by
 have hB0 := Below.refl w.heap.size w
 have hl_hs := sl_len hs
 cases hsw : shortP l
 · skip
   refine co_enter (n := 134) Tryd.func5 rfl rfl rfl [(0, v)] rfl (fun a h0 => ?_)
   refine co_seq ?_
   refine co_reg ?_
   refine pk0 (v := .bool false) h0 rfl fun a1 h1 => ?_; clear h0
   refine pl_nil ?_
   refine co_then ?_
   refine co_seq ?_
   refine co_seq ?_
   refine co_reg ?_
   refine pk0 (v := v) h1 rfl fun a2 h2 => ?_; clear h1
   refine pw h2 rfl (op_call (args := #[v]) (R := fun res xw => res = .bool (shortP l) ∧ Below w.heap.size w xw) rfl rfl rfl (by kernel_rfl) (by kernel_rfl) (Tryd.call18 _ _) (short13_any v l w hs (fun z hz => ⟨(hok z hz).sl⟩)) (by rintro e x ⟨rfl, h⟩; exact ⟨_, rfl, rfl, h⟩)) ?_; clear h2
   rintro _ w4 a3 ⟨rfl, hb5⟩ h3
   have hz6 := hb5.size
   have hc7 : (shortP l) = false := by rw [hsw]
   rw [hc7] at h3; clear hc7
   refine pk0 (v := .bool true) h3 rfl fun a8 h8 => ?_; clear h3
   refine pl_nil ?_
   refine co_then ?_
   refine co_true h8 rfl ?_
   refine co_seq ?_
   refine co_reg ?_
   have hB11 := hb_call hB0 hb5
   refine pw h8 rfl (op_call (args := #[]) (R := fun res xw => res = .bool true ∧ Below w4.heap.size w4 xw) rfl rfl rfl (by kernel_rfl) (by kernel_rfl) (Tryd.call19 _ _) (awake13 w4 (ht.below hB11)) (by rintro e x ⟨rfl, h⟩; exact ⟨_, rfl, rfl, h⟩)) ?_; clear h8
   rintro _ w10 a9 ⟨rfl, hb12⟩ h9
   have hz13 := hb12.size
   refine pk0 (v := .bool true) h9 rfl fun a14 h14 => ?_; clear h9
   refine pl_nil ?_
   refine co_then ?_
   refine wp_ret ?_
   refine co_thenR ?_
   refine co_ret1 h14 rfl rfl ?_
   have hB15 := hb_call hB11 hb12
   exact ⟨rfl, hB15⟩
 · skip
   refine co_enter (n := 134) Tryd.func5 rfl rfl rfl [(0, v)] rfl (fun a h0 => ?_)
   refine co_seq ?_
   refine co_reg ?_
   refine pk0 (v := .bool false) h0 rfl fun a16 h16 => ?_; clear h0
   refine pl_nil ?_
   refine co_then ?_
   refine co_seq ?_
   refine co_seq ?_
   refine co_reg ?_
   refine pk0 (v := v) h16 rfl fun a17 h17 => ?_; clear h16
   refine pw h17 rfl (op_call (args := #[v]) (R := fun res xw => res = .bool (shortP l) ∧ Below w.heap.size w xw) rfl rfl rfl (by kernel_rfl) (by kernel_rfl) (Tryd.call18 _ _) (short13_any v l w hs (fun z hz => ⟨(hok z hz).sl⟩)) (by rintro e x ⟨rfl, h⟩; exact ⟨_, rfl, rfl, h⟩)) ?_; clear h17
   rintro _ w19 a18 ⟨rfl, hb20⟩ h18
   have hz21 := hb20.size
   have hc22 : (shortP l) = true := by rw [hsw]
   rw [hc22] at h18; clear hc22
   refine pk0 (v := .bool false) h18 rfl fun a23 h23 => ?_; clear h18
   refine pl_nil ?_
   refine co_then ?_
   refine co_false h23 rfl ?_
   refine wp_skip ?_
   refine co_then ?_
   refine co_seq ?_
   refine co_reg ?_
   have hB28 := hb_call hB0 hb20
   refine pw h23 rfl (op_call (args := #[]) (R := fun res xw => ∃ N, res = pt N 0 ∧ WlO w.heap.size xw N 0 1 [] [] ∧ Below w19.heap.size w19 xw) rfl rfl rfl (by kernel_rfl) (by kernel_rfl) (Tryd.call10 _ _) (wlNew w.heap.size 1 w19 (by omega) (by omega)) (by rintro e x ⟨N, rfl, h1, h2⟩; exact ⟨_, rfl, N, rfl, h1, h2⟩)) ?_; clear h23
   rintro _ w25 a24 ⟨N29, rfl, hd26, hb30⟩ h24
   have hz31 := hb30.size
   refine pk0 (v := pt N29 0) h24 rfl fun a32 h32 => ?_; clear h24
   refine pl_nil ?_
   refine co_then ?_
   refine co_seq ?_
   refine co_reg ?_
   refine pk0 (v := pt N29 0) h32 rfl fun a33 h33 => ?_; clear h32
   have hB38 := hb_call hB28 hb30
   refine pw h33 rfl (op_call (args := #[pt N29 0]) (R := fun res xw => ∃ p : Nat, res = .tuple #[pt p 0, .int .i64 0] ∧ PkO w.heap.size xw N29 1 p ([] : List ByteArray) 0 0 ∧ ButD w.heap.size w25 xw) rfl rfl rfl (by kernel_rfl) (by kernel_rfl) (Tryd.call20 _ _) (pkNew w25 hd26 (ht.below hB38) (tab_pos ht)) (by rintro e x ⟨p, rfl, h⟩; exact ⟨_, rfl, p, rfl, h⟩)) ?_; clear h33
   rintro _ w35 a34 ⟨p39, rfl, hd36, hx37⟩ h34
   have hz41 := hx37.size
   have hB40 := (hbD hB38 hx37)
   have hz42 := hB40.size
   have hln43 := PkO.len hd36
   refine pk0 (v := .tuple #[pt p39 0, .int .i64 0]) h34 rfl fun a44 h44 => ?_; clear h34
   refine pk0 (v := pt p39 0) h44 rfl fun a45 h45 => ?_; clear h44
   refine pk0 (v := .int .i64 0) h45 rfl fun a46 h46 => ?_; clear h45
   refine pk0 (v := pt p39 0) h46 rfl fun a47 h47 => ?_; clear h46
   refine pk0 (v := .int .i64 0) h47 rfl fun a48 h48 => ?_; clear h47
   refine pl_nil ?_
   refine co_then ?_
   refine co_seq ?_
   refine co_seq ?_
   refine co_reg ?_
   refine pk0 (v := .int .i64 0) h48 rfl fun a49 h49 => ?_; clear h48
   refine pk0 (v := .bool ((0 : Int) != 0)) h49 rfl fun a50 h50 => ?_; clear h49
   refine pl_nil ?_
   refine co_then ?_
   have hc51 : ((0 : Int) != 0) = false := by first | (simp; done) | (simp; omega) | exact beq_false_of_ne (by omega) | exact beq_iff_eq.2 (by omega)
   rw [hc51] at h50; clear hc51
   refine co_false h50 rfl ?_
   refine wp_skip ?_
   refine co_then ?_
   refine co_seq ?_
   refine co_reg ?_
   refine pk0 (v := .int .i64 0) h50 rfl fun a52 h52 => ?_; clear h50
   refine pl_nil ?_
   refine co_then ?_
   refine co_seq ?_
   refine co_seq ?_
   refine co_reg ?_
   refine pk0 (v := .int .i64 0) h52 rfl fun a53 h53 => ?_; clear h52
   refine pl_nil ?_
   refine co_then ?_
   refine wp_block ?_
   have h54 : Slots 134 [(0, v), (3, pt N29 0), (4, pt p39 0), (6, .int .i64 0), (7, .int .i64 0)] _ := h53.sub ⟨rfl, rfl, rfl, rfl, rfl, trivial⟩; clear h53
   refine co_loop (fun mm a x => ∃ (i : Nat) (L : List ByteArray) (su : Nat) (cp : Nat) (p : Nat), Slots 134 [(0, v), (3, pt N29 0), (4, pt p 0), (6, .int .i64 ((su : Nat) : Int)), (7, .int .i64 ((i : Nat) : Int))] a ∧ mm = l.length - i ∧ (i ≤ l.length) ∧ (i ≤ 30) ∧ PkO w.heap.size x N29 (1 + 11 * i) p L su cp ∧ Below w.heap.size w x) (l.length - 0) ?_ ?_
   · exact ⟨0, ([] : List ByteArray), 0, 0, p39, h54.sub ⟨rfl, rfl, rfl, (slot_eq rfl (congrArg (Value.int .i64) (by first | rfl | (simp; done) | omega))), (slot_eq rfl (congrArg (Value.int .i64) (by first | rfl | omega))), trivial⟩, rfl, by omega, by omega, (PkO.up hd36 (by omega)), hB40⟩
   · rintro k55 a56 w57 ⟨i, L, su, cp, p, h56, rfl, hi58, hi59, hf60, hB61⟩
     have hz62 := hB61.size
     have hln0 := PkO.len hf60
     refine co_seq ?_
     refine co_seq ?_
     refine co_reg ?_
     refine pk0 (v := .int .i64 ((i : Nat) : Int)) h56 rfl fun a63 h63 => ?_; clear h56
     refine pk0 (v := v) h63 rfl fun a64 h64 => ?_; clear h63
     refine pk (v := .int .i64 ((l.length : Nat) : Int)) h64 rfl (rn_len rfl rfl Tryd.underlying43 (hs.below hB61)) fun a65 h65 => ?_; clear h64
     refine pk0 (v := .bool (decide (((i : Nat) : Int) < ((l.length : Nat) : Int)))) h65 rfl fun a66 h66 => ?_; clear h65
     refine pk0 (v := .bool (decide (((i : Nat) : Int) < ((l.length : Nat) : Int)))) h66 rfl fun a67 h67 => ?_; clear h66
     cases hc68 : (decide (((i : Nat) : Int) < ((l.length : Nat) : Int)))
     ·
      rw [hc68] at h67
      have hp69 : ¬ (((i : Nat) : Int) < ((l.length : Nat) : Int)) := of_decide_eq_false hc68
      clear hc68
      refine psk h67 rfl fun a70 h70 => ?_; clear h67
      refine psk h70 rfl fun a71 h71 => ?_; clear h70
      refine pk0 (v := .bool false) h71 rfl fun a72 h72 => ?_; clear h71
      refine pl_nil ?_
      refine co_then ?_
      refine co_false h72 rfl ?_
      refine wp_exit ?_
      refine co_thenX ?_
      refine co_thenX ?_
      refine co_blockX ?_
      refine co_then ?_
      refine co_seq ?_
      refine co_reg ?_
      refine pw h72 rfl (op_call (args := #[]) (R := fun res xw => res = .bool true ∧ Below w57.heap.size w57 xw) rfl rfl rfl (by kernel_rfl) (by kernel_rfl) (Tryd.call19 _ _) (awake13 w57 (ht.below hB61)) (by rintro e x ⟨rfl, h⟩; exact ⟨_, rfl, rfl, h⟩)) ?_; clear h72
      rintro _ w74 a73 ⟨rfl, hb75⟩ h73
      have hz76 := hb75.size
      refine pk0 (v := .bool true) h73 rfl fun a77 h77 => ?_; clear h73
      refine pl_nil ?_
      refine co_then ?_
      refine wp_ret ?_
      refine co_ret1 h77 rfl rfl ?_
      have hB78 := hb_call hB61 hb75
      exact ⟨rfl, hB78⟩
     ·
      rw [hc68] at h67
      have hp79 : ((i : Nat) : Int) < ((l.length : Nat) : Int) := of_decide_eq_true hc68
      clear hc68
      refine pk0 (v := .int .i64 ((i : Nat) : Int)) h67 rfl fun a80 h80 => ?_; clear h67
      refine pk0 (v := .bool (decide (((i : Nat) : Int) < 30))) h80 rfl fun a81 h81 => ?_; clear h80
      refine pk0 (v := .bool (decide (((i : Nat) : Int) < 30))) h81 rfl fun a82 h82 => ?_; clear h81
      refine pl_nil ?_
      refine co_then ?_
      cases hc83 : (decide (((i : Nat) : Int) < 30))
      ·
       rw [hc83] at h82
       have hp84 : ¬ (((i : Nat) : Int) < 30) := of_decide_eq_false hc83
       clear hc83
       refine co_false h82 rfl ?_
       refine wp_exit ?_
       refine co_thenX ?_
       refine co_thenX ?_
       refine co_blockX ?_
       refine co_then ?_
       refine co_seq ?_
       refine co_reg ?_
       refine pw h82 rfl (op_call (args := #[]) (R := fun res xw => res = .bool true ∧ Below w57.heap.size w57 xw) rfl rfl rfl (by kernel_rfl) (by kernel_rfl) (Tryd.call19 _ _) (awake13 w57 (ht.below hB61)) (by rintro e x ⟨rfl, h⟩; exact ⟨_, rfl, rfl, h⟩)) ?_; clear h82
       rintro _ w86 a85 ⟨rfl, hb87⟩ h85
       have hz88 := hb87.size
       refine pk0 (v := .bool true) h85 rfl fun a89 h89 => ?_; clear h85
       refine pl_nil ?_
       refine co_then ?_
       refine wp_ret ?_
       refine co_ret1 h89 rfl rfl ?_
       have hB90 := hb_call hB61 hb87
       exact ⟨rfl, hB90⟩
      ·
       rw [hc83] at h82
       have hp91 : ((i : Nat) : Int) < 30 := of_decide_eq_true hc83
       clear hc83
       refine co_true h82 rfl ?_
       refine wp_skip ?_
       refine co_then ?_
       refine co_seq ?_
       refine wp_block ?_
       refine co_seq ?_
       refine co_reg ?_
       refine pk0 (v := v) h82 rfl fun a92 h92 => ?_; clear h82
       refine pk0 (v := .int .i64 ((i : Nat) : Int)) h92 rfl fun a93 h93 => ?_; clear h92
       obtain ⟨y94, hy94⟩ : ∃ z, l[i]? = some z := ⟨_, List.getElem?_eq_getElem (by first | omega | (simp; done) | (simp; omega))⟩
       have oky94 := hok _ (List.mem_of_getElem? hy94)
       have k95 : -9223372036854775808 ≤ y94.n := oky94.lo
       have k96 : y94.n ≤ 9223372036854775807 := oky94.hi
       have hlay94 := lenAt_eq hy94
       have hozy94 := short_okP hsw hy94 (by omega)
       have hoyy94 := hozy94.1
       have holy94 := hozy94.2.1
       refine pk (v := pt (blkOf v) (offOf v + i * 4)) h93 rfl (rn_index rfl rfl rfl Tryd.underlying43 Tryd.sizeOf49 (hs.below hB61) (by omega) (by first | omega | (simp; done) | (simp; omega))) fun a97 h97 => ?_; clear h93
       refine pk0 (v := pt (blkOf v) (offOf v + i * 4)) h97 rfl fun a98 h98 => ?_; clear h97
       refine pk (v := .int .i64 y94.k) h98 rfl (rn_load1 rfl rfl Tryd.isAgg3 ((sl_at (hs.below hB61) hy94) 0 _ rfl)) fun a99 h99 => ?_; clear h98
       refine pl_nil ?_
       refine co_then ?_
       refine wp_block ?_
       refine co_seq ?_
       refine co_seq ?_
       refine co_reg ?_
       refine pk0 (v := .bool (y94.k == 0)) h99 rfl fun a100 h100 => ?_; clear h99
       refine pk0 (v := .bool (y94.k == 0)) h100 rfl fun a101 h101 => ?_; clear h100
       refine pl_nil ?_
       refine co_then ?_
       cases hc102 : (y94.k == 0)
       ·
        rw [hc102] at h101
        have hp103 : ¬ (y94.k = 0) := by first | simpa using hc102 | simpa [and_assoc] using hc102
        clear hc102
        refine co_false h101 rfl ?_
        refine co_seq ?_
        refine co_reg ?_
        refine pk0 (v := .bool (y94.k == 1)) h101 rfl fun a104 h104 => ?_; clear h101
        refine pk0 (v := .bool (y94.k == 1)) h104 rfl fun a105 h105 => ?_; clear h104
        refine pl_nil ?_
        refine co_then ?_
        cases hc106 : (y94.k == 1)
        ·
         rw [hc106] at h105
         have hp107 : ¬ (y94.k = 1) := by first | simpa using hc106 | simpa [and_assoc] using hc106
         clear hc106
         refine co_false h105 rfl ?_
         refine co_seq ?_
         refine co_reg ?_
         refine pk0 (v := .bool (y94.k == 5)) h105 rfl fun a108 h108 => ?_; clear h105
         refine pk0 (v := .bool (y94.k == 5)) h108 rfl fun a109 h109 => ?_; clear h108
         refine pl_nil ?_
         refine co_then ?_
         cases hc110 : (y94.k == 5)
         ·
          rw [hc110] at h109
          have hp111 : ¬ (y94.k = 5) := by first | simpa using hc110 | simpa [and_assoc] using hc110
          clear hc110
          refine co_false h109 rfl ?_
          refine co_reg ?_
          refine pk0 (v := .bool (y94.k == 6)) h109 rfl fun a112 h112 => ?_; clear h109
          refine pk0 (v := .bool (y94.k == 6)) h112 rfl fun a113 h113 => ?_; clear h112
          refine pl_nil ?_
          refine co_then ?_
          cases hc114 : (y94.k == 6)
          ·
           rw [hc114] at h113
           have hp115 : ¬ (y94.k = 6) := by first | simpa using hc114 | simpa [and_assoc] using hc114
           clear hc114
           refine co_false h113 rfl ?_
           refine co_seq ?_
           refine co_reg ?_
           refine pk0 (v := .bool (y94.k == 2)) h113 rfl fun a116 h116 => ?_; clear h113
           refine pk0 (v := .bool (y94.k == 2)) h116 rfl fun a117 h117 => ?_; clear h116
           refine pl_nil ?_
           refine co_then ?_
           cases hc118 : (y94.k == 2)
           ·
            rw [hc118] at h117
            have hp119 : ¬ (y94.k = 2) := by first | simpa using hc118 | simpa [and_assoc] using hc118
            clear hc118
            refine co_false h117 rfl ?_
            refine co_seq ?_
            refine co_reg ?_
            refine pk0 (v := .bool (y94.k == 3)) h117 rfl fun a120 h120 => ?_; clear h117
            refine pk0 (v := .bool (y94.k == 3)) h120 rfl fun a121 h121 => ?_; clear h120
            refine pl_nil ?_
            refine co_then ?_
            cases hc122 : (y94.k == 3)
            ·
             rw [hc122] at h121
             have hp123 : ¬ (y94.k = 3) := by first | simpa using hc122 | simpa [and_assoc] using hc122
             clear hc122
             refine co_false h121 rfl ?_
             refine co_seq ?_
             refine co_reg ?_
             refine pk0 (v := .bool (y94.k == 4)) h121 rfl fun a124 h124 => ?_; clear h121
             refine pk0 (v := .bool (y94.k == 4)) h124 rfl fun a125 h125 => ?_; clear h124
             refine pl_nil ?_
             refine co_then ?_
             cases hc126 : (y94.k == 4)
             ·
              rw [hc126] at h125
              have hp127 : ¬ (y94.k = 4) := by first | simpa using hc126 | simpa [and_assoc] using hc126
              clear hc126
              refine co_false h125 rfl ?_
              refine wp_skip ?_
              refine co_blockN ?_
              refine co_blockN ?_
              refine co_then ?_
              refine co_reg ?_
              refine pk0 (v := .int .i64 ((i : Nat) : Int)) h125 rfl fun a128 h128 => ?_; clear h125
              refine pk (v := .int .i64 ((i + 1 : Nat) : Int)) h128 rfl (rn_arith' rfl rfl rfl rfl rfl rfl (IntWalk.i64_in _ (by omega)) (by omega)) fun a129 h129 => ?_; clear h128
              refine pk0 (v := .int .i64 ((i + 1 : Nat) : Int)) h129 rfl fun a130 h130 => ?_; clear h129
              refine pl_nil ?_
              refine co_then ?_
              refine ⟨(l.length - (i + 1)), by omega, ?_⟩
              exact ⟨i + 1, L, su, cp, p, h130.sub ⟨rfl, rfl, rfl, rfl, rfl, trivial⟩, rfl, by omega, by omega, (PkO.up hf60 (by omega)), hB61⟩
             ·
              rw [hc126] at h125
              have hp131 : y94.k = 4 := by first | simpa using hc126 | simpa [and_assoc] using hc126
              clear hc126
              refine co_true h125 rfl ?_
              refine co_seq ?_
              refine co_seq ?_
              refine dr_gen (fun x => Below w.heap.size w x) (by kernel_rfl) (fun w132 hg133 => ?_) (fun w132 hg133 => ?_)
              ·
               have hz134 := hg133.size
               have hB135 := hb_new hB61 hg133
               exact hB135
              have hz136 := hg133.size
              have hB137 := hb_new hB61 hg133
              refine dk0 0 (v := pt p 0) h125 rfl rfl hB137 fun a138 h138 => ?_; clear h125
              refine dk0 1 (v := v) h138 rfl rfl hB137 fun a139 h139 => ?_; clear h138
              refine dk0 2 (v := .int .i64 ((i : Nat) : Int)) h139 rfl rfl hB137 fun a140 h140 => ?_; clear h139
              refine dk 3 (v := pt (blkOf v) (offOf v + i * 4)) h140 rfl rfl hB137 (fun x hx => (rn_index rfl rfl rfl Tryd.underlying43 Tryd.sizeOf49 (hs.below hx) (by omega) (by first | omega | (simp; done) | (simp; omega)))) fun a141 h141 => ?_; clear h140
              refine dk0 4 (v := pt (blkOf v) (offOf v + i * 4 + 2)) h141 rfl rfl hB137 fun a142 h142 => ?_; clear h141
              refine dk 5 (v := y94.lv) h142 rfl rfl hB137 (fun x hx => (rn_load1 rfl rfl Tryd.isAgg28 ((sl_at (hs.below hx) hy94) 2 _ rfl))) fun a143 h143 => ?_; clear h142
              have hd148 := hf60.new hg133
              refine d1 6 h143 rfl rfl (op_call (args := #[pt p 0, y94.lv]) (R := fun res xw => res = .int .i64 0 ∧ PkO w.heap.size xw N29 ((1 + 11 * i) + y94.l.length + 1) p y94.l y94.l.length y94.l.length ∧ ButP w.heap.size p w132 xw) rfl rfl rfl (by kernel_rfl) (by kernel_rfl) (Tryd.call25 _ _) (pkSave (y94.lv) y94.l w132 hd148 (fun X hX => (oky94.sl.below (hbD hB137 hX))) (by omega) (fun z hz => Nat.le_trans (hozy94.2.2 z hz) (by decide)) (ht.below hB137) (tab_pos ht)) (by rintro e x ⟨rfl, h1, h2⟩; exact ⟨_, rfl, rfl, h1, h2⟩)) ?_ ?_; clear h143
              ·
               rintro _ w145 ⟨rfl, hd146, hx147⟩
               obtain ⟨_, hbk150⟩ := PkO.blk hd148
               have hz151 := hx147.size
               have hB149 := (hbP hB137 hx147 (PkO.lo hd148))
               have hz152 := hB149.size
               have hln153 := PkO.len hd146
               exact hB149
              rintro _ w145 a144 ⟨rfl, hd146, hx147⟩ h144
              obtain ⟨_, hbk150⟩ := PkO.blk hd148
              have hz151 := hx147.size
              have hB149 := (hbP hB137 hx147 (PkO.lo hd148))
              have hz152 := hB149.size
              have hln153 := PkO.len hd146
              refine dk0 7 (v := .bool ((0 : Int) != 0)) h144 rfl rfl hB149 fun a154 h154 => ?_; clear h144
              refine dk0 8 (v := .bool ((0 : Int) != 0)) h154 rfl rfl hB149 fun a155 h155 => ?_; clear h154
              have hc156 : ((0 : Int) != 0) = false := by first | (simp; done) | (simp; omega) | exact beq_false_of_ne (by omega) | exact beq_iff_eq.2 (by omega)
              rw [hc156] at h155; clear hc156
              refine dk0 9 (v := pt p 0) h155 rfl rfl hB149 fun a157 h157 => ?_; clear h155
              refine dk0 11 (v := v) h157 rfl rfl hB149 fun a158 h158 => ?_; clear h157
              refine dk0 12 (v := .int .i64 ((i : Nat) : Int)) h158 rfl rfl hB149 fun a159 h159 => ?_; clear h158
              refine dk 13 (v := pt (blkOf v) (offOf v + i * 4)) h159 rfl rfl hB149 (fun x hx => (rn_index rfl rfl rfl Tryd.underlying43 Tryd.sizeOf49 (hs.below hx) (by omega) (by first | omega | (simp; done) | (simp; omega)))) fun a160 h160 => ?_; clear h159
              refine dk0 14 (v := pt (blkOf v) (offOf v + i * 4 + 2)) h160 rfl rfl hB149 fun a161 h161 => ?_; clear h160
              refine dk 15 (v := y94.lv) h161 rfl rfl hB149 (fun x hx => (rn_load1 rfl rfl Tryd.isAgg28 ((sl_at (hs.below hx) hy94) 2 _ rfl))) fun a162 h162 => ?_; clear h161
              refine d1 10 h162 rfl rfl (op_call (args := #[pt p 0]) (R := fun res xw => ∃ (u : Value), u = res ∧ xw.ownsRow w145.heap.size 9 1 u y94.l.length (y94.l.flatMap strE) ∧ PkO w.heap.size xw N29 ((1 + 11 * i) + y94.l.length + 1) p y94.l y94.l.length y94.l.length ∧ ButD w.heap.size w145 xw) rfl rfl rfl (by kernel_rfl) (by kernel_rfl) (Tryd.call23 _ _) (pkTexts w145 hd146 (by omega) (ht.below hB149) (tab_pos ht)) (by rintro e x ⟨u, rfl, h⟩; exact ⟨_, rfl, u, rfl, h⟩)) ?_ ?_; clear h162
              ·
               rintro _ w164 ⟨u167, rfl, hr168, hd165, hx166⟩
               have hz170 := hx166.size
               have hB169 := (hbD hB149 hx166)
               have hz171 := hB169.size
               have hln172 := PkO.len hd165
               have hl173 := sl_len (row_sl hr168 strE_lenW)
               exact hB169
              rintro _ w164 a163 ⟨u167, rfl, hr168, hd165, hx166⟩ h163
              have hz170 := hx166.size
              have hB169 := (hbD hB149 hx166)
              have hz171 := hB169.size
              have hln172 := PkO.len hd165
              have hl173 := sl_len (row_sl hr168 strE_lenW)
              refine d1 16 h163 rfl rfl (op_call (args := #[u167, y94.lv]) (R := fun res xw => res = .bool true ∧ Below w164.heap.size w164 xw) rfl rfl rfl (by kernel_rfl) (by kernel_rfl) (Tryd.call15 _ _) (sameStr13_any u167 (y94.lv) y94.l w164 (row_sl hr168 strE_lenW) (sl_castW (oky94.sl.below hB169) (rfl))) (by rintro e x ⟨rfl, h⟩; exact ⟨_, rfl, rfl, h⟩)) ?_ ?_; clear h163
              ·
               rintro _ w175 ⟨rfl, hb176⟩
               have hz177 := hb176.size
               have hB178 := hb_call hB169 hb176
               exact hB178
              rintro _ w175 a174 ⟨rfl, hb176⟩ h174
              have hz177 := hb176.size
              have hB178 := hb_call hB169 hb176
              refine dk0 17 (v := .bool false) h174 rfl rfl hB178 fun a179 h179 => ?_; clear h174
              refine dk0 18 (v := .bool false) h179 rfl rfl hB178 fun a180 h180 => ?_; clear h179
              refine dr_done (by kernel_rfl) ?_
              refine co_then ?_
              refine co_false h180 rfl ?_
              refine wp_skip ?_
              refine co_then ?_
              refine co_reg ?_
              refine pk0 (v := v) h180 rfl fun a181 h181 => ?_; clear h180
              refine pk0 (v := .int .i64 ((i : Nat) : Int)) h181 rfl fun a182 h182 => ?_; clear h181
              refine pk (v := pt (blkOf v) (offOf v + i * 4)) h182 rfl (rn_index rfl rfl rfl Tryd.underlying43 Tryd.sizeOf49 (hs.below hB178) (by omega) (by first | omega | (simp; done) | (simp; omega))) fun a183 h183 => ?_; clear h182
              refine pk0 (v := pt (blkOf v) (offOf v + i * 4 + 2)) h183 rfl fun a184 h184 => ?_; clear h183
              refine pk (v := y94.lv) h184 rfl (rn_load1 rfl rfl Tryd.isAgg28 ((sl_at (hs.below hB178) hy94) 2 _ rfl)) fun a185 h185 => ?_; clear h184
              refine pk (v := .int .i64 ((y94.l.length : Nat) : Int)) h185 rfl (rn_len rfl rfl Tryd.underlying28 (oky94.sl.below hB178)) fun a186 h186 => ?_; clear h185
              refine pk0 (v := .int .i64 ((y94.l.length : Nat) : Int)) h186 rfl fun a187 h187 => ?_; clear h186
              refine pl_nil ?_
              refine co_blockN ?_
              refine co_blockN ?_
              refine co_then ?_
              refine co_reg ?_
              refine pk0 (v := .int .i64 ((i : Nat) : Int)) h187 rfl fun a188 h188 => ?_; clear h187
              refine pk (v := .int .i64 ((i + 1 : Nat) : Int)) h188 rfl (rn_arith' rfl rfl rfl rfl rfl rfl (IntWalk.i64_in _ (by omega)) (by omega)) fun a189 h189 => ?_; clear h188
              refine pk0 (v := .int .i64 ((i + 1 : Nat) : Int)) h189 rfl fun a190 h190 => ?_; clear h189
              refine pl_nil ?_
              refine co_then ?_
              refine ⟨(l.length - (i + 1)), by omega, ?_⟩
              have hd191 := hd165.call hb176
              exact ⟨i + 1, y94.l, y94.l.length, y94.l.length, p, h190.sub ⟨rfl, rfl, rfl, rfl, rfl, trivial⟩, rfl, by omega, by omega, (PkO.up hd191 (by omega)), hB178⟩
            ·
             rw [hc122] at h121
             have hp192 : y94.k = 3 := by first | simpa using hc122 | simpa [and_assoc] using hc122
             clear hc122
             refine co_true h121 rfl ?_
             refine co_seq ?_
             refine co_reg ?_
             refine pk0 (v := pt p 0) h121 rfl fun a193 h193 => ?_; clear h121
             refine pw h193 rfl (op_call (args := #[pt p 0]) (R := fun res xw => ∃ (u : Value), u = res ∧ xw.ownsRow w57.heap.size 9 1 u L.length (L.flatMap strE) ∧ PkO w.heap.size xw N29 (1 + 11 * i) p L su cp ∧ ButD w.heap.size w57 xw) rfl rfl rfl (by kernel_rfl) (by kernel_rfl) (Tryd.call23 _ _) (pkTexts w57 hf60 (by omega) (ht.below hB61) (tab_pos ht)) (by rintro e x ⟨u, rfl, h⟩; exact ⟨_, rfl, u, rfl, h⟩)) ?_; clear h193
             rintro _ w195 a194 ⟨u198, rfl, hr199, hd196, hx197⟩ h194
             have hz201 := hx197.size
             have hB200 := (hbD hB61 hx197)
             have hz202 := hB200.size
             have hln203 := PkO.len hd196
             have hl204 := sl_len (row_sl hr199 strE_lenW)
             refine pk0 (v := u198) h194 rfl fun a205 h205 => ?_; clear h194
             refine pl_nil ?_
             refine co_then ?_
             refine co_seq ?_
             refine co_reg ?_
             refine pk0 (v := pt N29 0) h205 rfl fun a206 h206 => ?_; clear h205
             refine pk0 (v := v) h206 rfl fun a207 h207 => ?_; clear h206
             refine pk0 (v := .int .i64 ((i : Nat) : Int)) h207 rfl fun a208 h208 => ?_; clear h207
             refine pk (v := pt (blkOf v) (offOf v + i * 4)) h208 rfl (rn_index rfl rfl rfl Tryd.underlying43 Tryd.sizeOf49 (hs.below hB200) (by omega) (by first | omega | (simp; done) | (simp; omega))) fun a209 h209 => ?_; clear h208
             refine pk0 (v := pt (blkOf v) (offOf v + i * 4 + 3)) h209 rfl fun a210 h210 => ?_; clear h209
             refine pk (v := .int .i64 y94.n) h210 rfl (rn_load1 rfl rfl Tryd.isAgg3 ((sl_at (hs.below hB200) hy94) 3 _ rfl)) fun a211 h211 => ?_; clear h210
             refine pw h211 rfl (op_call (args := #[pt N29 0, .int .i64 y94.n]) (R := fun res xw => ∃ k : Nat, res = .tuple #[] ∧ (su ≤ k ∧ k ≤ L.length) ∧ CrO w.heap.size xw N29 ((1 + 11 * i) + 1) (L.take k) cp ∧ ButD w.heap.size w195 xw) rfl rfl rfl (by kernel_rfl) (by kernel_rfl) (Tryd.call14 _ _) (pkCrash w195 y94.n ⟨oky94.lo, oky94.hi⟩ hd196 (by omega)) (by rintro e x ⟨k, rfl, h⟩; exact ⟨_, rfl, k, rfl, h⟩)) ?_; clear h211
             rintro _ w213 a212 ⟨k216, rfl, hk217, hd214, hx215⟩ h212
             have hlk218 : (L.take k216).length = k216 := by rw [List.length_take]; omega
             have hz220 := hx215.size
             have hB219 := (hbD hB200 hx215)
             have hz221 := hB219.size
             refine pl_nil ?_
             refine co_then ?_
             refine co_seq ?_
             refine co_reg ?_
             refine pk0 (v := pt N29 0) h212 rfl fun a222 h222 => ?_; clear h212
             refine pw h222 rfl (op_call (args := #[pt N29 0]) (R := fun res xw => ∃ p : Nat, res = .tuple #[pt p 0, .int .i64 0] ∧ PkO w.heap.size xw N29 ((1 + 11 * i) + 1) p (L.take k216) ((L.take k216).length) cp ∧ ButD w.heap.size w213 xw) rfl rfl rfl (by kernel_rfl) (by kernel_rfl) (Tryd.call24 _ _) (pkOpen w213 hd214 (by omega) (ht.below hB219) (tab_pos ht)) (by rintro e x ⟨p, rfl, h⟩; exact ⟨_, rfl, p, rfl, h⟩)) ?_; clear h222
             rintro _ w224 a223 ⟨p227, rfl, hd225, hx226⟩ h223
             have hz229 := hx226.size
             have hB228 := (hbD hB219 hx226)
             have hz230 := hB228.size
             have hln231 := PkO.len hd225
             refine pk0 (v := .tuple #[pt p227 0, .int .i64 0]) h223 rfl fun a232 h232 => ?_; clear h223
             refine pk0 (v := pt p227 0) h232 rfl fun a233 h233 => ?_; clear h232
             refine pk0 (v := .int .i64 0) h233 rfl fun a234 h234 => ?_; clear h233
             refine pk0 (v := pt p227 0) h234 rfl fun a235 h235 => ?_; clear h234
             refine pk0 (v := .int .i64 0) h235 rfl fun a236 h236 => ?_; clear h235
             refine pl_nil ?_
             refine co_then ?_
             refine co_seq ?_
             refine co_seq ?_
             refine co_reg ?_
             refine pk0 (v := .int .i64 0) h236 rfl fun a237 h237 => ?_; clear h236
             refine pk0 (v := .bool ((0 : Int) != 0)) h237 rfl fun a238 h238 => ?_; clear h237
             refine pk0 (v := .bool ((0 : Int) != 0)) h238 rfl fun a239 h239 => ?_; clear h238
             have hc240 : ((0 : Int) != 0) = false := by first | (simp; done) | (simp; omega) | exact beq_false_of_ne (by omega) | exact beq_iff_eq.2 (by omega)
             rw [hc240] at h239; clear hc240
             refine pk0 (v := pt p227 0) h239 rfl fun a241 h241 => ?_; clear h239
             refine pk0 (v := .bool false) h241 rfl fun a242 h242 => ?_; clear h241
             refine pk0 (v := .bool false) h242 rfl fun a243 h243 => ?_; clear h242
             refine pl_nil ?_
             refine co_then ?_
             refine co_false h243 rfl ?_
             refine wp_skip ?_
             refine co_then ?_
             refine co_seq ?_
             refine co_reg ?_
             refine pk0 (v := pt p227 0) h243 rfl fun a244 h244 => ?_; clear h243
             have hr249 := rowD hr199 (by unfold offD; decide) hx215
             have hr250 := rowD hr249 (by unfold offD; decide) hx226
             refine pw h244 rfl (op_call (args := #[pt p227 0]) (R := fun res xw => ∃ (u : Value), u = res ∧ xw.ownsRow w224.heap.size 9 1 u (L.take k216).length ((L.take k216).flatMap strE) ∧ PkO w.heap.size xw N29 ((1 + 11 * i) + 1) p227 (L.take k216) ((L.take k216).length) cp ∧ ButD w.heap.size w224 xw) rfl rfl rfl (by kernel_rfl) (by kernel_rfl) (Tryd.call23 _ _) (pkTexts w224 hd225 (by omega) (ht.below hB228) (tab_pos ht)) (by rintro e x ⟨u, rfl, h⟩; exact ⟨_, rfl, u, rfl, h⟩)) ?_; clear h244
             rintro _ w246 a245 ⟨u251, rfl, hr252, hd247, hx248⟩ h245
             have hz254 := hx248.size
             have hB253 := (hbD hB228 hx248)
             have hz255 := hB253.size
             have hln256 := PkO.len hd247
             have hl257 := sl_len (row_sl hr252 strE_lenW)
             refine pk0 (v := u251) h245 rfl fun a258 h258 => ?_; clear h245
             refine pl_nil ?_
             refine co_then ?_
             refine co_seq ?_
             refine co_seq ?_
             refine co_reg ?_
             refine pk0 (v := u251) h258 rfl fun a259 h259 => ?_; clear h258
             refine pk (v := .int .i64 (((L.take k216).length : Nat) : Int)) h259 rfl (rn_lenOwn rfl rfl Tryd.underlying28 hr252) fun a260 h260 => ?_; clear h259
             refine pk0 (v := .int .i64 ((su : Nat) : Int)) h260 rfl fun a261 h261 => ?_; clear h260
             refine pk0 (v := .bool (decide ((((L.take k216).length : Nat) : Int) < ((su : Nat) : Int)))) h261 rfl fun a262 h262 => ?_; clear h261
             refine pk0 (v := .bool (decide ((((L.take k216).length : Nat) : Int) < ((su : Nat) : Int)))) h262 rfl fun a263 h263 => ?_; clear h262
             have hc264 : (decide ((((L.take k216).length : Nat) : Int) < ((su : Nat) : Int))) = false := decide_eq_false (by omega)
             rw [hc264] at h263; clear hc264
             refine pk0 (v := u251) h263 rfl fun a265 h265 => ?_; clear h263
             refine pk (v := .int .i64 (((L.take k216).length : Nat) : Int)) h265 rfl (rn_lenOwn rfl rfl Tryd.underlying28 hr252) fun a266 h266 => ?_; clear h265
             refine pk0 (v := u198) h266 rfl fun a267 h267 => ?_; clear h266
             have hr268 := rowD hr250 (by unfold offD; decide) hx248
             refine pk (v := .int .i64 ((L.length : Nat) : Int)) h267 rfl (rn_lenOwn rfl rfl Tryd.underlying28 hr268) fun a269 h269 => ?_; clear h267
             refine pk0 (v := .bool (decide ((((L.take k216).length : Nat) : Int) > ((L.length : Nat) : Int)))) h269 rfl fun a270 h270 => ?_; clear h269
             refine pk0 (v := .bool (decide ((((L.take k216).length : Nat) : Int) > ((L.length : Nat) : Int)))) h270 rfl fun a271 h271 => ?_; clear h270
             refine pk0 (v := .bool (decide ((((L.take k216).length : Nat) : Int) > ((L.length : Nat) : Int)))) h271 rfl fun a272 h272 => ?_; clear h271
             have hc273 : (decide ((((L.take k216).length : Nat) : Int) > ((L.length : Nat) : Int))) = false := decide_eq_false (by omega)
             rw [hc273] at h272; clear hc273
             refine pk0 (v := u251) h272 rfl fun a274 h274 => ?_; clear h272
             refine pk0 (v := u198) h274 rfl fun a275 h275 => ?_; clear h274
             refine pk0 (v := u251) h275 rfl fun a276 h276 => ?_; clear h275
             refine pk (v := .int .i64 (((L.take k216).length : Nat) : Int)) h276 rfl (rn_lenOwn rfl rfl Tryd.underlying28 hr252) fun a277 h277 => ?_; clear h276
             refine pk (v := subV u198 0 ((L.take k216).length) 1) h277 rfl (rn_sliceTo rfl rfl rfl Tryd.underlying28 Tryd.sizeOf9 (row_sl hr268 strE_lenW) (by omega) (by omega)) fun a278 h278 => ?_; clear h277
             refine pw h278 rfl (op_call (args := #[u251, subV u198 0 ((L.take k216).length) 1]) (R := fun res xw => res = .bool true ∧ Below w246.heap.size w246 xw) rfl rfl rfl (by kernel_rfl) (by kernel_rfl) (Tryd.call15 _ _) (sameStr13_any u251 (subV u198 0 ((L.take k216).length) 1) (L.take k216) w246 (row_sl hr252 strE_lenW) (sl_castW (sl_take (row_sl hr268 strE_lenW) _ (by omega)) (by first | rfl | (rw [hlk218]; done) | (simp; omega)))) (by rintro e x ⟨rfl, h⟩; exact ⟨_, rfl, rfl, h⟩)) ?_; clear h278
             rintro _ w280 a279 ⟨rfl, hb281⟩ h279
             have hz282 := hb281.size
             refine pk0 (v := .bool false) h279 rfl fun a283 h283 => ?_; clear h279
             refine pk0 (v := .bool false) h283 rfl fun a284 h284 => ?_; clear h283
             refine pl_nil ?_
             refine co_then ?_
             refine co_false h284 rfl ?_
             refine wp_skip ?_
             refine co_then ?_
             refine co_seq ?_
             refine co_reg ?_
             refine pk0 (v := pt p227 0) h284 rfl fun a285 h285 => ?_; clear h284
             refine pk0 (v := pt p227 0) h285 rfl fun a286 h286 => ?_; clear h285
             refine pl_nil ?_
             refine co_then ?_
             refine co_reg ?_
             refine pk0 (v := u251) h286 rfl fun a287 h287 => ?_; clear h286
             have hr288 := row_kept_new hr252 (below_grown hb281)
             refine pk (v := .int .i64 (((L.take k216).length : Nat) : Int)) h287 rfl (rn_lenOwn rfl rfl Tryd.underlying28 hr288) fun a289 h289 => ?_; clear h287
             refine pk0 (v := .int .i64 (((L.take k216).length : Nat) : Int)) h289 rfl fun a290 h290 => ?_; clear h289
             refine pl_nil ?_
             refine co_blockN ?_
             refine co_blockN ?_
             refine co_then ?_
             refine co_reg ?_
             refine pk0 (v := .int .i64 ((i : Nat) : Int)) h290 rfl fun a291 h291 => ?_; clear h290
             refine pk (v := .int .i64 ((i + 1 : Nat) : Int)) h291 rfl (rn_arith' rfl rfl rfl rfl rfl rfl (IntWalk.i64_in _ (by omega)) (by omega)) fun a292 h292 => ?_; clear h291
             refine pk0 (v := .int .i64 ((i + 1 : Nat) : Int)) h292 rfl fun a293 h293 => ?_; clear h292
             refine pl_nil ?_
             refine co_then ?_
             refine ⟨(l.length - (i + 1)), by omega, ?_⟩
             have hd294 := hd247.call hb281
             have hB295 := hb_call hB253 hb281
             exact ⟨i + 1, (L.take k216), ((L.take k216).length), cp, p227, h293.sub ⟨rfl, rfl, rfl, rfl, rfl, trivial⟩, rfl, by omega, by omega, (PkO.up hd294 (by omega)), hB295⟩
           ·
            rw [hc118] at h117
            have hp296 : y94.k = 2 := by first | simpa using hc118 | simpa [and_assoc] using hc118
            clear hc118
            refine co_true h117 rfl ?_
            refine co_seq ?_
            refine co_reg ?_
            refine pk0 (v := pt p 0) h117 rfl fun a297 h297 => ?_; clear h117
            refine pw h297 rfl (op_call (args := #[pt p 0]) (R := fun res xw => ∃ k : Int, res = .int .i64 k ∧ PkO w.heap.size xw N29 ((1 + 11 * i) + 1) p L L.length cp ∧ ButD w.heap.size w57 xw) rfl rfl rfl (by kernel_rfl) (by kernel_rfl) (Tryd.call22 _ _) (pkSync w57 hf60 (by omega)) (by rintro e x ⟨k, rfl, h1, h2⟩; exact ⟨_, rfl, k, rfl, h1, h2⟩)) ?_; clear h297
            rintro _ w299 a298 ⟨k302, rfl, hd300, hx301⟩ h298
            have hz304 := hx301.size
            have hB303 := (hbD hB61 hx301)
            have hz305 := hB303.size
            have hln306 := PkO.len hd300
            refine pl_nil ?_
            refine co_then ?_
            refine co_reg ?_
            refine pk0 (v := pt p 0) h298 rfl fun a307 h307 => ?_; clear h298
            refine pw h307 rfl (op_call (args := #[pt p 0]) (R := fun res xw => ∃ (u : Value), u = res ∧ xw.ownsRow w299.heap.size 9 1 u L.length (L.flatMap strE) ∧ PkO w.heap.size xw N29 ((1 + 11 * i) + 1) p L L.length cp ∧ ButD w.heap.size w299 xw) rfl rfl rfl (by kernel_rfl) (by kernel_rfl) (Tryd.call23 _ _) (pkTexts w299 hd300 (by omega) (ht.below hB303) (tab_pos ht)) (by rintro e x ⟨u, rfl, h⟩; exact ⟨_, rfl, u, rfl, h⟩)) ?_; clear h307
            rintro _ w309 a308 ⟨u312, rfl, hr313, hd310, hx311⟩ h308
            have hz315 := hx311.size
            have hB314 := (hbD hB303 hx311)
            have hz316 := hB314.size
            have hln317 := PkO.len hd310
            have hl318 := sl_len (row_sl hr313 strE_lenW)
            refine pk (v := .int .i64 ((L.length : Nat) : Int)) h308 rfl (rn_lenOwn rfl rfl Tryd.underlying28 hr313) fun a319 h319 => ?_; clear h308
            refine pk0 (v := .int .i64 ((L.length : Nat) : Int)) h319 rfl fun a320 h320 => ?_; clear h319
            refine pl_nil ?_
            refine co_blockN ?_
            refine co_blockN ?_
            refine co_then ?_
            refine co_reg ?_
            refine pk0 (v := .int .i64 ((i : Nat) : Int)) h320 rfl fun a321 h321 => ?_; clear h320
            refine pk (v := .int .i64 ((i + 1 : Nat) : Int)) h321 rfl (rn_arith' rfl rfl rfl rfl rfl rfl (IntWalk.i64_in _ (by omega)) (by omega)) fun a322 h322 => ?_; clear h321
            refine pk0 (v := .int .i64 ((i + 1 : Nat) : Int)) h322 rfl fun a323 h323 => ?_; clear h322
            refine pl_nil ?_
            refine co_then ?_
            refine ⟨(l.length - (i + 1)), by omega, ?_⟩
            exact ⟨i + 1, L, L.length, cp, p, h323.sub ⟨rfl, rfl, rfl, rfl, rfl, trivial⟩, rfl, by omega, by omega, (PkO.up hd310 (by omega)), hB314⟩
          ·
           rw [hc114] at h113
           have hp324 : y94.k = 6 := by first | simpa using hc114 | simpa [and_assoc] using hc114
           clear hc114
           refine co_true h113 rfl ?_
           refine co_seq ?_
           refine co_reg ?_
           refine pk0 (v := pt p 0) h113 rfl fun a325 h325 => ?_; clear h113
           refine pk0 (v := v) h325 rfl fun a326 h326 => ?_; clear h325
           refine pk0 (v := .int .i64 ((i : Nat) : Int)) h326 rfl fun a327 h327 => ?_; clear h326
           refine pk (v := pt (blkOf v) (offOf v + i * 4)) h327 rfl (rn_index rfl rfl rfl Tryd.underlying43 Tryd.sizeOf49 (hs.below hB61) (by omega) (by first | omega | (simp; done) | (simp; omega))) fun a328 h328 => ?_; clear h327
           refine pk0 (v := pt (blkOf v) (offOf v + i * 4 + 1)) h328 rfl fun a329 h329 => ?_; clear h328
           refine pk (v := .string y94.s) h329 rfl (rn_load1 rfl rfl Tryd.isAgg9 ((sl_at (hs.below hB61) hy94) 1 _ rfl)) fun a330 h330 => ?_; clear h329
           refine pw h330 rfl (op_call (args := #[pt p 0, .string y94.s]) (R := fun res xw => res = .int .i64 0 ∧ PkO w.heap.size xw N29 ((1 + 11 * i) + 1) p (L ++ [y94.s]) su cp ∧ ButD w.heap.size w57 xw) rfl rfl rfl (by kernel_rfl) (by kernel_rfl) (Tryd.call21 _ _) (pkAppend w57 y94.s hf60 (by omega) (ht.below hB61) (tab_pos ht) (by omega)) (by rintro e x ⟨rfl, h1, h2⟩; exact ⟨_, rfl, rfl, h1, h2⟩)) ?_; clear h330
           rintro _ w332 a331 ⟨rfl, hd333, hx334⟩ h331
           have hz336 := hx334.size
           have hB335 := (hbD hB61 hx334)
           have hz337 := hB335.size
           have hln338 := PkO.len hd333
           refine pk0 (v := .bool ((0 : Int) != 0)) h331 rfl fun a339 h339 => ?_; clear h331
           refine pl_nil ?_
           refine co_then ?_
           have hc340 : ((0 : Int) != 0) = false := by first | (simp; done) | (simp; omega) | exact beq_false_of_ne (by omega) | exact beq_iff_eq.2 (by omega)
           rw [hc340] at h339; clear hc340
           refine co_false h339 rfl ?_
           refine wp_skip ?_
           refine co_blockN ?_
           refine co_blockN ?_
           refine co_then ?_
           refine co_reg ?_
           refine pk0 (v := .int .i64 ((i : Nat) : Int)) h339 rfl fun a341 h341 => ?_; clear h339
           refine pk (v := .int .i64 ((i + 1 : Nat) : Int)) h341 rfl (rn_arith' rfl rfl rfl rfl rfl rfl (IntWalk.i64_in _ (by omega)) (by omega)) fun a342 h342 => ?_; clear h341
           refine pk0 (v := .int .i64 ((i + 1 : Nat) : Int)) h342 rfl fun a343 h343 => ?_; clear h342
           refine pl_nil ?_
           refine co_then ?_
           refine ⟨(l.length - (i + 1)), by omega, ?_⟩
           exact ⟨i + 1, (L ++ [y94.s]), su, cp, p, h343.sub ⟨rfl, rfl, rfl, rfl, rfl, trivial⟩, rfl, by omega, by omega, (PkO.up hd333 (by omega)), hB335⟩
         ·
          rw [hc110] at h109
          have hp344 : y94.k = 5 := by first | simpa using hc110 | simpa [and_assoc] using hc110
          clear hc110
          refine co_true h109 rfl ?_
          refine wp_skip ?_
          refine co_then ?_
          refine co_true h109 rfl ?_
          refine co_seq ?_
          refine co_reg ?_
          refine pk0 (v := pt p 0) h109 rfl fun a345 h345 => ?_; clear h109
          refine pk0 (v := v) h345 rfl fun a346 h346 => ?_; clear h345
          refine pk0 (v := .int .i64 ((i : Nat) : Int)) h346 rfl fun a347 h347 => ?_; clear h346
          refine pk (v := pt (blkOf v) (offOf v + i * 4)) h347 rfl (rn_index rfl rfl rfl Tryd.underlying43 Tryd.sizeOf49 (hs.below hB61) (by omega) (by first | omega | (simp; done) | (simp; omega))) fun a348 h348 => ?_; clear h347
          refine pk0 (v := pt (blkOf v) (offOf v + i * 4 + 1)) h348 rfl fun a349 h349 => ?_; clear h348
          refine pk (v := .string y94.s) h349 rfl (rn_load1 rfl rfl Tryd.isAgg9 ((sl_at (hs.below hB61) hy94) 1 _ rfl)) fun a350 h350 => ?_; clear h349
          refine pw h350 rfl (op_call (args := #[pt p 0, .string y94.s]) (R := fun res xw => res = .int .i64 0 ∧ PkO w.heap.size xw N29 ((1 + 11 * i) + 1) p (L ++ [y94.s]) su cp ∧ ButD w.heap.size w57 xw) rfl rfl rfl (by kernel_rfl) (by kernel_rfl) (Tryd.call21 _ _) (pkAppend w57 y94.s hf60 (by omega) (ht.below hB61) (tab_pos ht) (by omega)) (by rintro e x ⟨rfl, h1, h2⟩; exact ⟨_, rfl, rfl, h1, h2⟩)) ?_; clear h350
          rintro _ w352 a351 ⟨rfl, hd353, hx354⟩ h351
          have hz356 := hx354.size
          have hB355 := (hbD hB61 hx354)
          have hz357 := hB355.size
          have hln358 := PkO.len hd353
          refine pk0 (v := .bool ((0 : Int) != 0)) h351 rfl fun a359 h359 => ?_; clear h351
          refine pl_nil ?_
          refine co_then ?_
          have hc360 : ((0 : Int) != 0) = false := by first | (simp; done) | (simp; omega) | exact beq_false_of_ne (by omega) | exact beq_iff_eq.2 (by omega)
          rw [hc360] at h359; clear hc360
          refine co_false h359 rfl ?_
          refine wp_skip ?_
          refine co_blockN ?_
          refine co_blockN ?_
          refine co_then ?_
          refine co_reg ?_
          refine pk0 (v := .int .i64 ((i : Nat) : Int)) h359 rfl fun a361 h361 => ?_; clear h359
          refine pk (v := .int .i64 ((i + 1 : Nat) : Int)) h361 rfl (rn_arith' rfl rfl rfl rfl rfl rfl (IntWalk.i64_in _ (by omega)) (by omega)) fun a362 h362 => ?_; clear h361
          refine pk0 (v := .int .i64 ((i + 1 : Nat) : Int)) h362 rfl fun a363 h363 => ?_; clear h362
          refine pl_nil ?_
          refine co_then ?_
          refine ⟨(l.length - (i + 1)), by omega, ?_⟩
          exact ⟨i + 1, (L ++ [y94.s]), su, cp, p, h363.sub ⟨rfl, rfl, rfl, rfl, rfl, trivial⟩, rfl, by omega, by omega, (PkO.up hd353 (by omega)), hB355⟩
        ·
         rw [hc106] at h105
         have hp364 : y94.k = 1 := by first | simpa using hc106 | simpa [and_assoc] using hc106
         clear hc106
         refine co_true h105 rfl ?_
         refine wp_skip ?_
         refine co_then ?_
         refine co_true h105 rfl ?_
         refine co_seq ?_
         refine co_reg ?_
         refine pk0 (v := pt p 0) h105 rfl fun a365 h365 => ?_; clear h105
         refine pk0 (v := v) h365 rfl fun a366 h366 => ?_; clear h365
         refine pk0 (v := .int .i64 ((i : Nat) : Int)) h366 rfl fun a367 h367 => ?_; clear h366
         refine pk (v := pt (blkOf v) (offOf v + i * 4)) h367 rfl (rn_index rfl rfl rfl Tryd.underlying43 Tryd.sizeOf49 (hs.below hB61) (by omega) (by first | omega | (simp; done) | (simp; omega))) fun a368 h368 => ?_; clear h367
         refine pk0 (v := pt (blkOf v) (offOf v + i * 4 + 1)) h368 rfl fun a369 h369 => ?_; clear h368
         refine pk (v := .string y94.s) h369 rfl (rn_load1 rfl rfl Tryd.isAgg9 ((sl_at (hs.below hB61) hy94) 1 _ rfl)) fun a370 h370 => ?_; clear h369
         refine pw h370 rfl (op_call (args := #[pt p 0, .string y94.s]) (R := fun res xw => res = .int .i64 0 ∧ PkO w.heap.size xw N29 ((1 + 11 * i) + 1) p (L ++ [y94.s]) su cp ∧ ButD w.heap.size w57 xw) rfl rfl rfl (by kernel_rfl) (by kernel_rfl) (Tryd.call21 _ _) (pkAppend w57 y94.s hf60 (by omega) (ht.below hB61) (tab_pos ht) (by omega)) (by rintro e x ⟨rfl, h1, h2⟩; exact ⟨_, rfl, rfl, h1, h2⟩)) ?_; clear h370
         rintro _ w372 a371 ⟨rfl, hd373, hx374⟩ h371
         have hz376 := hx374.size
         have hB375 := (hbD hB61 hx374)
         have hz377 := hB375.size
         have hln378 := PkO.len hd373
         refine pk0 (v := .bool ((0 : Int) != 0)) h371 rfl fun a379 h379 => ?_; clear h371
         refine pl_nil ?_
         refine co_then ?_
         have hc380 : ((0 : Int) != 0) = false := by first | (simp; done) | (simp; omega) | exact beq_false_of_ne (by omega) | exact beq_iff_eq.2 (by omega)
         rw [hc380] at h379; clear hc380
         refine co_false h379 rfl ?_
         refine wp_skip ?_
         refine co_blockN ?_
         refine co_blockN ?_
         refine co_then ?_
         refine co_reg ?_
         refine pk0 (v := .int .i64 ((i : Nat) : Int)) h379 rfl fun a381 h381 => ?_; clear h379
         refine pk (v := .int .i64 ((i + 1 : Nat) : Int)) h381 rfl (rn_arith' rfl rfl rfl rfl rfl rfl (IntWalk.i64_in _ (by omega)) (by omega)) fun a382 h382 => ?_; clear h381
         refine pk0 (v := .int .i64 ((i + 1 : Nat) : Int)) h382 rfl fun a383 h383 => ?_; clear h382
         refine pl_nil ?_
         refine co_then ?_
         refine ⟨(l.length - (i + 1)), by omega, ?_⟩
         exact ⟨i + 1, (L ++ [y94.s]), su, cp, p, h383.sub ⟨rfl, rfl, rfl, rfl, rfl, trivial⟩, rfl, by omega, by omega, (PkO.up hd373 (by omega)), hB375⟩
       ·
        rw [hc102] at h101
        have hp384 : y94.k = 0 := by first | simpa using hc102 | simpa [and_assoc] using hc102
        clear hc102
        refine co_true h101 rfl ?_
        refine wp_skip ?_
        refine co_then ?_
        refine co_true h101 rfl ?_
        refine co_seq ?_
        refine co_reg ?_
        refine pk0 (v := pt p 0) h101 rfl fun a385 h385 => ?_; clear h101
        refine pk0 (v := v) h385 rfl fun a386 h386 => ?_; clear h385
        refine pk0 (v := .int .i64 ((i : Nat) : Int)) h386 rfl fun a387 h387 => ?_; clear h386
        refine pk (v := pt (blkOf v) (offOf v + i * 4)) h387 rfl (rn_index rfl rfl rfl Tryd.underlying43 Tryd.sizeOf49 (hs.below hB61) (by omega) (by first | omega | (simp; done) | (simp; omega))) fun a388 h388 => ?_; clear h387
        refine pk0 (v := pt (blkOf v) (offOf v + i * 4 + 1)) h388 rfl fun a389 h389 => ?_; clear h388
        refine pk (v := .string y94.s) h389 rfl (rn_load1 rfl rfl Tryd.isAgg9 ((sl_at (hs.below hB61) hy94) 1 _ rfl)) fun a390 h390 => ?_; clear h389
        refine pw h390 rfl (op_call (args := #[pt p 0, .string y94.s]) (R := fun res xw => res = .int .i64 0 ∧ PkO w.heap.size xw N29 ((1 + 11 * i) + 1) p (L ++ [y94.s]) su cp ∧ ButD w.heap.size w57 xw) rfl rfl rfl (by kernel_rfl) (by kernel_rfl) (Tryd.call21 _ _) (pkAppend w57 y94.s hf60 (by omega) (ht.below hB61) (tab_pos ht) (by omega)) (by rintro e x ⟨rfl, h1, h2⟩; exact ⟨_, rfl, rfl, h1, h2⟩)) ?_; clear h390
        rintro _ w392 a391 ⟨rfl, hd393, hx394⟩ h391
        have hz396 := hx394.size
        have hB395 := (hbD hB61 hx394)
        have hz397 := hB395.size
        have hln398 := PkO.len hd393
        refine pk0 (v := .bool ((0 : Int) != 0)) h391 rfl fun a399 h399 => ?_; clear h391
        refine pl_nil ?_
        refine co_then ?_
        have hc400 : ((0 : Int) != 0) = false := by first | (simp; done) | (simp; omega) | exact beq_false_of_ne (by omega) | exact beq_iff_eq.2 (by omega)
        rw [hc400] at h399; clear hc400
        refine co_false h399 rfl ?_
        refine wp_skip ?_
        refine co_blockN ?_
        refine co_blockN ?_
        refine co_then ?_
        refine co_reg ?_
        refine pk0 (v := .int .i64 ((i : Nat) : Int)) h399 rfl fun a401 h401 => ?_; clear h399
        refine pk (v := .int .i64 ((i + 1 : Nat) : Int)) h401 rfl (rn_arith' rfl rfl rfl rfl rfl rfl (IntWalk.i64_in _ (by omega)) (by omega)) fun a402 h402 => ?_; clear h401
        refine pk0 (v := .int .i64 ((i + 1 : Nat) : Int)) h402 rfl fun a403 h403 => ?_; clear h402
        refine pl_nil ?_
        refine co_then ?_
        refine ⟨(l.length - (i + 1)), by omega, ?_⟩
        exact ⟨i + 1, (L ++ [y94.s]), su, cp, p, h403.sub ⟨rfl, rfl, rfl, rfl, rfl, trivial⟩, rfl, by omega, by omega, (PkO.up hd393 (by omega)), hB395⟩
end Go.Proofs.YtfiplhnplmadmaaDoor

/- Slices of any elements that came in, opened by their readings. Conditions: none. -/
namespace Go.Proofs.YtfiplhnplmadmaaDoor
open Go.RowKit Go.ChangeShapes Go.WideShapes Go.Deep

section
variable {H : Type} {enc : TypeId × Value → H} {P : Program} {w : World} {base : Nat} {spare : Nat → Bool} {held : Bool}
theorem open_rows {α : Type} [Inhabited α] {t e : TypeId} {fuel : Nat} {cs : List Value} {x : DataW H × List MemPlace} (E : α → List Value) (sz : Nat) (good : α → Prop)
    (ht : P.underlying t = some (.slice e)) (hC : P.cellsOf e = sz) (hpos : 0 < sz)
    (elem : ∀ n cs x, DataW.trod enc P w base spare held n e cs = some x → ∃ a : α, cs = E a ∧ good a)
    (h : DataW.trod enc P w base spare held fuel t cs = some x) :
    ∃ (l : List α) (v : Value), cs = [v] ∧ SliceOf E sz w v l ∧ ∀ a ∈ l, good a := by
  rcases open_slice ht h with ⟨hcs, _⟩ | ⟨a, len, cap, m, n, D, Pl, hcs, _, hl, hm, hmm, _, hi⟩
  · exact ⟨[], _, hcs, SliceOf.nil _ _ _, by simp⟩
  · have hlm : len ≤ m := by rw [hmm]; split <;> omega
    rw [hC] at hi
    obtain ⟨f, hf⟩ := choose_lt (α := α) (n := len) (p := fun i y => (∀ j u, (E y)[j]? = some u → w.cell? ((a.add (i * sz)).add j) = some u) ∧ good y ∧ (E y).length = sz) (fun i hilt => by
      obtain ⟨cs', hc, ht'⟩ := hi i (by omega)
      obtain ⟨y, rfl, hg⟩ := elem n cs' _ ht'
      obtain ⟨_, hcl, hat⟩ := World.cells?_some hc
      exact ⟨y, fun j u hu => by
        have hj : j < (E y).length := (List.getElem?_eq_some_iff.1 hu).1
        rw [hat j (by omega), hu], hg, hcl⟩)
    refine ⟨(List.range len).map f, _, hcs, ⟨some a, cap, by simp, by simpa using hl, by unfold maxLen at hm; omega, fun h => (by cases h), fun j hj => ?_⟩, fun y hy => ?_⟩
    · have hj' : j < len := by simpa using hj
      obtain ⟨b, off, spot⟩ := a
      have hspot : spot = none := by
        obtain ⟨h1, _, h3⟩ := hf 0 (by omega)
        have hc0 := h1 0 _ (List.getElem?_eq_getElem (show 0 < (E (f 0)).length by omega))
        simpa [Addr.add] using World.cell?_spot hc0
      subst hspot
      refine ⟨b, off, rfl, fun i u hu => ?_⟩
      have := (hf j hj').1 i u (by simpa using hu)
      rw [Addr.add_lit, Addr.add_lit] at this
      exact this
    · obtain ⟨i, hi', rfl⟩ := List.mem_map.1 hy
      exact (hf i (List.mem_range.1 hi')).2.1
end
end Go.Proofs.YtfiplhnplmadmaaDoor

/- catenalaw13: the calls opened. Conditions: none. -/
namespace Go.Proofs.YtfiplhnplmadmaaDoor
open Go.RowKit Go.PlainAid
set_option linter.unusedVariables false
section
variable {H : Type} {enc : TypeId × Value → H} {w : World} {base : Nat} {spare : Nat → Bool} {held : Bool}
theorem elem_strP (n : Nat) (cs : List Value) (x : DataW H × List MemPlace) (h : DataW.trod enc Tryd.prog w base spare held n 9 cs = some x) : ∃ a : ByteArray, cs = strE a ∧ True := by
  obtain ⟨b, e1, _, w1⟩ := DataW.trod_string Tryd.underlying9 h
  exact ⟨b, e1, trivial⟩
theorem open_strsP {fuel : Nat} {cs : List Value} {x : DataW H × List MemPlace} (h : DataW.trod enc Tryd.prog w base spare held fuel 28 cs = some x) :
    ∃ (l : List ByteArray) (v : Value), cs = [v] ∧ SliceOf strE 1 w v l ∧ ∀ p ∈ l, True :=
  open_rows strE 1 (fun _ => True) Tryd.underlying28 (by kernel_rfl) (by omega) elem_strP h
set_option maxRecDepth 10000 in
theorem elem_pact (n : Nat) (cs : List Value) (x : DataW H × List MemPlace) (h : DataW.trod enc Tryd.prog w base spare held n 49 cs = some x) : ∃ a, cs = pactE a ∧ PActO w a := by
  obtain ⟨xs, m, _, _, hl, hxl, hf⟩ := DataW.trod_struct Tryd.underlying49 h
  have hl4 : cs.length = 4 := hl
  have hx2 : xs.length = 4 := hxl
  clear hl hxl
  match cs, hl4, xs, hx2 with
  | [c0, c1, c2, c3], _, [y0, y1, y2, y3], _ =>
    have h0' : DataW.trod enc Tryd.prog w base spare held m 3 [c0] = some y0 := hf 0 _ rfl
    have h1' : DataW.trod enc Tryd.prog w base spare held m 9 [c1] = some y1 := hf 1 _ rfl
    have h2' : DataW.trod enc Tryd.prog w base spare held m 28 [c2] = some y2 := hf 2 _ rfl
    have h3' : DataW.trod enc Tryd.prog w base spare held m 3 [c3] = some y3 := hf 3 _ rfl
    obtain ⟨a, e0, _, w0⟩ := DataW.trod_int Tryd.underlying3 h0'
    obtain ⟨b, e1, _, w1⟩ := DataW.trod_string Tryd.underlying9 h1'
    obtain ⟨l, v, e2, hs, -⟩ := open_strsP h2'
    obtain ⟨d, e3, _, w3⟩ := DataW.trod_int Tryd.underlying3 h3'
    simp only [List.cons.injEq, and_true] at e0 e1 e2 e3
    subst e0 e1 e2 e3
    have h9 := wf_i64 w3
    exact ⟨⟨a, b, _, l, d⟩, rfl, ⟨hs, h9.1, h9.2⟩⟩
theorem open_pacts {fuel : Nat} {cs : List Value} {x : DataW H × List MemPlace} (h : DataW.trod enc Tryd.prog w base spare held fuel 43 cs = some x) :
    ∃ (l : List PActT) (v : Value), cs = [v] ∧ SliceOf pactE 4 w v l ∧ ∀ p ∈ l, PActO w p :=
  open_rows pactE 4 (PActO w) Tryd.underlying43 (by kernel_rfl) (by omega) elem_pact h
end
end Go.Proofs.YtfiplhnplmadmaaDoor

/- The table as it is laid: what the row's condition gives the walks. Conditions: none. -/
namespace Go.Proofs.YtfiplhnplmadmaaDoor
open Go.RowKit

def laidList {H : Type} : List (String × DataW H) := [("catena/sum.halves", Rows.laid_catena_sum_halves)]
def halvesZ : List Int := [0, 498536548, 997073096, 651767980, 1994146192, 1802195444, 1303535960, 1342533948, 3988292384, 4027552580, 3604390888, 3412177804, 2607071920, 2262029012, 2685067896, 3183342108]
theorem halves_at : ∀ i, i < 16 → halvesZ.getD i 0 = ((lfn 4 i : Nat) : Int) := by decide
theorem tab_of_laid {W : World} (h : laidMetH Tryd.prog laidList W) : Tab W := by
  rw [MakeChecks.laidMetH_plain _ _ _ (by kernel_rfl)] at h
  have hg : Tryd.prog.globalNamed "catena/sum.halves" = some 0 := by kernel_rfl
  have ht := Lib.tabIs_of_head (P := Tryd.prog) (W := W) (name := "catena/sum.halves") (k := .u32) (zs := halvesZ) (rest := []) (g := 0) (t := 111) (e := 94) (n := 16) hg (by kernel_rfl) Tryd.underlying111 Tryd.underlying94 (by kernel_rfl) (by kernel_rfl) h
  intro i hi
  have := ht.cell hg i (by simpa [halvesZ] using hi)
  rw [halves_at i hi] at this
  exact this
theorem door_met (os : Os) (args : Array Value) : laidMetH Tryd.prog laidList ((World.doorLaid Tryd.prog 400 os).forCall (fun _ _ => 0) ⟨#[], args, []⟩).memory :=
  laidMetH_of_parts3 (fuel := 8) (laidMet_of_run' 8 (by kernel_rfl) (by kernel_rfl)) (by kernel_rfl) (by kernel_rfl)
end Go.Proofs.YtfiplhnplmadmaaDoor
