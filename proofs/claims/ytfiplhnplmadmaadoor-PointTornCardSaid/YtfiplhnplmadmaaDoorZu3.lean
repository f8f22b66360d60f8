/- Put together: ZpDZt, ZpEZt, ZpFZt, ZpGZt, ZpXZt, ZpVZt, ZpYZt, ZpOZt, ZpPZt, ZpQZt, ZpHZt, ZpRZt, ZpSZt, GoZt, ZpTZt, ZpWZt, ZpIZt, ZpMZt, ZtAZt. Conditions: as each says. -/
import Derived.Test.YtfiplhnplmadmaaDoorZu2
import Derived.Defers
import Derived.Recover
import Derived.Laws.Pointers
import Derived.WalkLawsBesides
import Derived.Test.YtfiplhnplmadmaaDoorZu1
/- Package point: whole, segments. Conditions: files are segments. -/
namespace Go.Proofs.YtfiplhnplmadmaaDoor
open Go.RowKit Go.PlainAid Go.Shelf
set_option linter.unusedVariables false

def hasF (sg : Int → WSeg) (l : List Int) : Nat := l.foldl (fun n k => n + (ownB (sg k).T).length) 0
theorem hasF_at {sg : Int → WSeg} {l : List Int} {i : Nat} {y : Int} (h : l[i]? = some y) : hasF sg (l.take (i + 1)) = hasF sg (l.take i) + (ownB (sg y).T).length := by
  unfold hasF; rw [List.take_add_one, h, List.foldl_append]; rfl
def wholeF (sg : Int → WSeg) (first : Int) (ys : List Int) : List Int :=
  if (begB (sg first)).2 = true then (if ((hasF sg (rowF (notB sg) first ys) : Nat) : Int) < (begB (sg first)).1 then [] else rowF (notB sg) first ys) else []
theorem ownB_le (l : List ByteArray) : (ownB l).length ≤ l.length := List.length_filterMap_le _ _
theorem begB_nn {y : WSeg} (h : (begB y).2 = true) : 0 ≤ (begB y).1 ∧ (begB y).1 < 18446744073709551616 := by
  unfold begB at h ⊢
  cases hT : y.T with
  | nil => rw [hT] at h; cases h
  | cons x r =>
    rw [hT] at h
    show 0 ≤ (cntB x).1 ∧ (cntB x).1 < _
    have h : (cntB x).2 = true := h
    unfold cntB at h ⊢
    by_cases hp : isP x = true
    · rw [if_pos hp] at h ⊢
      have h : (decide ((getR x 1).2.2 = 0) && decide ((getR x 1).2.1 = (x.size : Int))) = true := h
      rw [Bool.and_eq_true, decide_eq_true_iff] at h
      have := getR_go x 1 h.1
      exact ⟨this.2.2.1, this.2.2.2⟩
    · rw [if_neg hp] at h; cases h
set_option maxRecDepth 100000 in
set_option maxHeartbeats 4000000 in
theorem whole_any {base : Zn} {d c : Nat} {s : DkS} {sg : Int → WSeg} (first : Int) (ys : List Int) (v : Value) (Bf : Nat) (w : World) (h : DsO base d c s sg w) (hf : 1 ≤ first ∧ first ≤ 2000000000) (hlen : ys.length ≤ 1000000) (hrow : w.ownsRow Bf 3 1 v ys.length (ys.flatMap (intE .i64))) :
    Calls Tryd.prog 40 #[pt d 0, v, .int .i64 first] w fun e w' => ∃ u, e = .returned u ∧ w'.ownsRow w.heap.size 3 1 u (wholeF sg first ys).length ((wholeF sg first ys).flatMap (intE .i64)) ∧ DsO base d c s sg w' ∧ ButD base w w' := by
  obtain ⟨s1, s2, s3⟩ := h.seg first
  have hg0 := World.grownBy_alloc w (.cells #[pt d 0] 25) none
  obtain ⟨w0, hw0⟩ : ∃ w0, w0 = w.alloc (.cells #[pt d 0] 25) := ⟨_, rfl⟩
  have hBx : Boxed w0 w.heap.size 25 (pt d 0) := by rw [hw0]; exact Boxed.new w _ _
  rw [← hw0] at hg0
  have hB0 : ButD base w w0 := (But.refl _ w).grown hg0 (fun r e => nomatch e)
  have H0 := Lib.hid (h.turn (h.obj.new hg0) hB0)
  have HROW := Lib.hid (row_kept_new hrow hg0)
  have HB0 := Lib.hid hB0; have HW0 := Lib.hid hw0; have HBX := Lib.hid hBx
  have cd := hBx.cell
  have hz0 := hg0.size
  clear hrow h hB0 hBx hg0
  simp only [pt] at cd
  go_enter Tryd.func40, Tryd.ntmps40
  simp only [pt]
  go_wp2_with fail
  have e0 : w.alloc (.cells #[.pointer (some ⟨d, 0, none⟩)] 25) = w0 := HW0.out.symm
  rw [e0]
  refine (tData w0 first H0.out.obj).mono ?_
  rintro e w1 ⟨rfl, hD1, hb1⟩
  rw [s2]
  have H1 := Lib.hid (H0.out.turn hD1 hb1); have HB1 := Lib.hid (butD_tr HB0.out hb1); have HR1 := Lib.hid (rowD HROW.out int_off hb1); have HX1 := Lib.hid (boxD HBX.out (by decide) hb1)
  have hz1 := hb1.size
  have HS1 := Lib.hid s1; have HF := Lib.hid hf
  clear hD1 hb1 s1 s2 e0
  go_wp2_with fail
  refine (beginning_any (sg first) w1 HS1.out s3 H1.out.tab).mono ?_
  rintro e w2 ⟨rfl, hb2⟩
  have H2 := Lib.hid (H1.out.below hb2); have HB2 := Lib.hid (butD_tr HB1.out (But.of_below hb2)); have HR2 := Lib.hid (row_below HR1.out hb2); have HX2 : Hid (Boxed w2 w.heap.size 25 (pt d 0)) := Lib.hid (boxed_non HX1.out (below_grown hb2) (fun r e => nomatch e))
  have hz2 := hb2.size
  have hbg := begB_nn (y := sg first)
  obtain ⟨⟨nB, bB⟩, hbB⟩ : ∃ r, begB (sg first) = r := ⟨_, rfl⟩
  have hwf : wholeF sg first ys = if bB = true then (if ((hasF sg (rowF (notB sg) first ys) : Nat) : Int) < nB then [] else rowF (notB sg) first ys) else [] := by unfold wholeF; rw [hbB]
  rw [hbB] at hbg ⊢
  have HBG := Lib.hid hbg; have HWF := Lib.hid hwf
  clear hb2 hbg hwf hbB cd s3
  dsimp only
  cases bB with
  | false =>
    go_wp2
    go_ret
    exact ⟨_, rfl, (by rw [show wholeF sg first ys = [] from HWF.out]; exact World.ownsRow_nil _ _ _ _), H2.out, HB2.out⟩
  | true =>
    obtain ⟨hn0, hn1⟩ := HBG.out rfl
    go_wp2_with fail
    refine (prowW_any first ys v Bf w.heap.size w2 H2.out HF.out hlen HR2.out HX2.out).mono ?_
    rintro e w3 ⟨u, rfl, hu, hD3, hb3⟩
    have hRl := rowF_le (notB sg) first ys
    have hwf : wholeF sg first ys = if ((hasF sg (rowF (notB sg) first ys) : Nat) : Int) < nB then [] else rowF (notB sg) first ys := HWF.out
    obtain ⟨R, hR⟩ : ∃ R, R = rowF (notB sg) first ys := ⟨_, rfl⟩
    rw [← hR] at hu hRl hwf
    obtain ⟨au, cu, rfl, -, -⟩ := row_view hu
    have H3 := Lib.hid hD3; have HB3 := Lib.hid (butD_tr HB2.out hb3); have HU3 := Lib.hid (row_lows hu (by omega) : w3.ownsRow w.heap.size 3 1 (.slice au R.length cu) R.length (R.flatMap (intE .i64))); have HX3 := Lib.hid (boxD HX2.out (by decide) hb3)
    have HW2 := Lib.hid hwf
    have hRz : R.length ≤ 1000000 := by omega
    clear hu hD3 hb3 hwf hR hRl HWF
    go_wp2
    go_loopg [10, 31] (R.length + 1) (fun g s10 s31 wr => ∃ i : Nat, s31 = .int .i64 i ∧ s10 = .int .i64 ((hasF sg (R.take i) : Nat) : Int) ∧ i ≤ R.length ∧ R.length + 1 ≤ i + g ∧ hasF sg (R.take i) ≤ i * 1000000 ∧ Hid (wr.ownsRow w.heap.size 3 1 (.slice au R.length cu) R.length (R.flatMap (intE .i64))) ∧ Hid (DsO base d c s sg wr) ∧ Hid (ButD base w wr) ∧ Hid (Boxed wr w.heap.size 25 (pt d 0)))
    case atStart => exact ⟨0, rfl, rfl, by omega, by omega, Nat.le_refl _, HU3, H3, HB3, HX3⟩
    case round =>
      obtain ⟨i, rfl, rfl, hi, hg, hh, HU, HD, HB, HX⟩ := hrel
      by_cases hlt : i < R.length
      · obtain ⟨y, hy⟩ : ∃ y, R[i]? = some y := ⟨_, List.getElem?_eq_getElem hlt⟩
        obtain ⟨au', cu', e, -, hat⟩ := row_view HU.out
        cases e
        obtain ⟨g2, rfl, -, hg2⟩ := hat i hlt
        rw [flat_ints, List.getElem?_map, hy] at hg2
        replace hg2 : wr.cell? ⟨g2, i, none⟩ = some (.int .i64 y) := hg2
        have cx := HX.out.cell
        simp only [pt] at cx
        obtain ⟨q1, q2, q3⟩ := HD.out.seg y
        have q4 := HD.out.txt y
        have hha := hasF_at (sg := sg) hy
        have hol := ownB_le (sg y).T
        obtain ⟨hN, hhN⟩ : ∃ n, n = hasF sg (R.take i) := ⟨_, rfl⟩
        rw [← hhN] at hh hha ⊢
        have HHA := Lib.hid hha; have HQ1 := Lib.hid q1; have HQ2 := Lib.hid q2; have HHN := Lib.hid hhN
        clear hy hat hha q1 q2 hhN
        go_wp2_with fail
        refine (tData wr y HD.out.obj).mono ?_
        rintro e w4 ⟨rfl, hD4, hb4⟩
        rw [HQ2.out]
        have HD4 := Lib.hid (HD.out.turn hD4 hb4); have HB4 := Lib.hid (butD_tr HB.out hb4); have HU4 := Lib.hid (rowD HU.out int_off hb4); have HX4 := Lib.hid (boxD HX.out (by decide) hb4)
        clear hD4 hb4 cx hg2
        go_wp2_with fail
        refine (all_any (sg y).b w4 HD4.out.tab (by omega)).mono ?_
        rintro e w5 ⟨vt, l, b, c5, rfl, hAll, hrow5, hb5⟩
        have hS := seg_all HQ1.out
        obtain ⟨hl5, -, -⟩ := run_det hAll.1 hAll.2 hS.1 hS.2
        subst hl5
        have HD5 := Lib.hid (HD4.out.below hb5); have HB5 := Lib.hid (butD_tr HB4.out (But.of_below hb5)); have HU5 := Lib.hid (row_below HU4.out hb5); have HX5 : Hid (Boxed w5 w.heap.size 25 (pt d 0)) := Lib.hid (boxed_non HX4.out (below_grown hb5) (fun r e => nomatch e))
        have HR5 := Lib.hid hrow5
        clear hAll hS hb5 hrow5
        go_wp2_with fail
        refine (own_any vt (sg y).T w5 (SliceOf.own HR5.out (fun _ _ => rfl)) q4).mono ?_
        rintro e w6 ⟨u6, rfl, hrow6, hb6⟩
        obtain ⟨a6, c6, rfl, -, -⟩ := row_view hrow6
        have HD6 := Lib.hid (HD5.out.below hb6); have HB6 := Lib.hid (butD_tr HB5.out (But.of_below hb6)); have HU6 := Lib.hid (row_below HU5.out hb6); have HX6 : Hid (Boxed w6 w.heap.size 25 (pt d 0)) := Lib.hid (boxed_non HX5.out (below_grown hb6) (fun r e => nomatch e))
        clear hb6 hrow6
        obtain ⟨m, hm⟩ : ∃ m, m = (ownB (sg y).T).length := ⟨_, rfl⟩
        rw [← hm] at hol ⊢
        have HM := Lib.hid hm; clear hm
        go_wp2
        go_roundg (gk - 1)
        case rel => exact ⟨i + 1, by go_num, by (have h1 := HHA.out; rw [← HM.out] at h1; rw [h1]; go_num), by omega, by omega, by (have h1 := HHA.out; rw [← HM.out] at h1; omega), HU6, HD6, HB6, HX6⟩
        case measure => omega
      · have hq : i = R.length := by omega
        subst hq
        rw [List.take_length] at hh ⊢
        obtain ⟨hN, hhN⟩ : ∃ n, n = hasF sg R := ⟨_, rfl⟩
        rw [← hhN] at hh HW2 ⊢
        have HHN := Lib.hid hhN; clear hhN
        by_cases hc : (hN : Int) < nB
        · have hd : decide ((hN : Int) < nB) = true := decide_eq_true hc
          have hw2 : wholeF sg first ys = [] := by rw [HW2.out, if_pos hc]
          have HW3 := Lib.hid hw2; clear hw2 hc
          go_wp2
          go_ret
          exact ⟨_, rfl, (by rw [HW3.out]; exact World.ownsRow_nil _ _ _ _), HD.out, HB.out⟩
        · have hd : decide ((hN : Int) < nB) = false := decide_eq_false hc
          have hw2 : wholeF sg first ys = R := by rw [HW2.out, if_neg hc]
          have HW3 := Lib.hid hw2; clear hw2 hc
          go_wp2
          go_ret
          exact ⟨_, rfl, (by rw [HW3.out]; exact HU.out), HD.out, HB.out⟩
end Go.Proofs.YtfiplhnplmadmaaDoor

/- Package point: segments, dropUnless. Conditions: nothing is pending where files are dropped. -/
namespace Go.Proofs.YtfiplhnplmadmaaDoor
open Go.RowKit Go.PlainAid Go.Shelf
set_option linter.unusedVariables false

theorem rowT_low {first : Int} : ∀ {l : List Int}, (∀ k ∈ l, k < first) → l.foldl (rowS (fun _ => true) first) [] = []
  | [], _ => rfl
  | k :: r, h => by
    have hk := h k (List.mem_cons_self ..)
    rw [List.foldl_cons, show rowS (fun _ => true) first [] k = [] from by unfold rowS; rw [if_neg]; rintro ⟨h1, -⟩; simp at h1; omega]
    exact rowT_low (fun z hz => h z (List.mem_cons_of_mem _ hz))
theorem rowT_seg (first : Int) (n : Nat) : (segN first n).foldl (rowS (fun _ => true) first) [] = segN first n := by
  induction n with
  | zero => rfl
  | succ n ih =>
    rw [segN_snoc, List.foldl_append, ih, List.foldl_cons, List.foldl_nil]
    show rowS _ first (segN first n) (first + (n : Int)) = _
    unfold rowS; rw [if_pos ⟨by rw [segN_len], .inr rfl⟩]
/-- Of a log that lies behind all else. -/
theorem rowT_all {fm : Int → Option FileM} {first : Int} {A : List WSeg} (h : Logs fm first A) {ys : List Int} (hK : KeysF fm ys) : rowF (fun _ => true) first ys = segN first A.length := by
  have h1 : ys.filter (fun z => decide (first ≤ z)) = segN first A.length := h.fil ⟨ys, hK, Nat.le_refl _, rfl⟩
  have h2 : ys = ys.filter (fun z => decide (z < first)) ++ ys.filter (fun z => decide (first ≤ z)) := by
    have hs := hK.1
    clear h h1 hK
    induction ys with
    | nil => rfl
    | cons y r ih =>
      obtain ⟨a1, a2⟩ := List.pairwise_cons.1 hs
      by_cases hy : y < first
      · rw [List.filter_cons_of_pos (by simpa using hy), List.filter_cons_of_neg (by simpa using hy), List.cons_append, ← ih a2]
      · rw [List.filter_cons_of_neg (by simpa using hy), List.filter_cons_of_pos (by simp; omega)]
        have e1 : r.filter (fun z => decide (z < first)) = [] := List.filter_eq_nil_iff.2 (fun z hz => by have := a1 z hz; simp; omega)
        have e2 : r.filter (fun z => decide (first ≤ z)) = r := List.filter_eq_self.2 (fun z hz => by have := a1 z hz; simp; omega)
        rw [e1, e2]; rfl
  unfold rowF
  rw [h2, List.foldl_append, rowT_low (fun k hk => by have := (List.mem_filter.1 hk).2; simpa using this), h1, rowT_seg]
set_option maxRecDepth 100000 in
set_option maxHeartbeats 4000000 in
theorem psegs_any {base : Zn} {d c : Nat} {s : DkS} {sg : Int → WSeg} (p N : Nat) (first : Int) (A : List WSeg) (w : World) (h : DsO base d c s sg w) (hL : Logs s.fm first A) (hf : 1 ≤ first ∧ first ≤ 2000000000) (hP : Blk w p 61 #[.bool true, pt d 0, .int .i64 first, pt N 0]) :
    Calls Tryd.prog 43 #[pt p 1] w fun e w' => ∃ (u : Value), e = .returned u ∧ w'.ownsRow 0 3 1 u A.length ((segN first A.length).flatMap (intE .i64)) ∧ DsO base d c s sg w' ∧ ButD base w w' := by
  have c1 : w.cell? ⟨p, 1, none⟩ = some (.pointer (some ⟨d, 0, none⟩)) := hP.cell (k := 1) rfl
  have c2 : w.cell? ⟨p, 2, none⟩ = some (.int .i64 first) := hP.cell (k := 2) rfl
  have H := Lib.hid h; have HL := Lib.hid hL; have HF := Lib.hid hf; have HP := Lib.hid hP
  clear h hL hf hP
  go_enter Tryd.func43, Tryd.ntmps43
  simp only [pt]
  go_wp2_with fail
  go_region_law (first | (go_simp; go_at_call 26; refine (tFiles _ (H.out.obj.new (drew_grown _)) H.out.c6).mono ?_; rintro e w2 ⟨ys, u2, rfl, hr2, hK2, hl2, hD2, hb2⟩; have HP2 := (HP.out.below (grown_below (drew_grown _))).grW (by decide) hb2; have k1 : w2.cell? ⟨p, 1, none⟩ = some (.pointer (some ⟨d, 0, none⟩)) := HP2.cell (k := 1) rfl; have k2 : w2.cell? ⟨p, 2, none⟩ = some (.int .i64 first) := HP2.cell (k := 2) rfl; have HR2 := Lib.hid hr2; have HK2 := Lib.hid hK2; have HL2 := Lib.hid hl2; have HB2 := Lib.hid (butD_tr (But.of_below (grown_below (drew_grown w))) hb2); have HD2 := Lib.hid (H.out.turn hD2 HB2.out); clear hr2 hK2 hl2 hD2 hb2 HP2) | (go_simp; go_at_call 56; refine (prowT_any first ys u2 _ w2 HD2.out HF.out (Nat.le_trans HL2.out H.out.c6) HR2.out).mono ?_; rintro e w3 ⟨u3, rfl, hr3, hD3, hb3⟩; have HR3 := Lib.hid hr3; have HD3 := Lib.hid hD3; have HB3 := Lib.hid (butD_tr HB2.out hb3); clear hr3 hD3 hb3))
  all_goals (have hrt := rowT_all HL.out HK2.out; have HRT := Lib.hid hrt; clear hrt; go_wp2; go_ret; exact ⟨_, rfl, (by have h3 := HR3.out; rw [HRT.out, segN_len] at h3; exact row_lows h3 (Nat.zero_le _)), HD3.out, HB3.out⟩)
def dropF (Q : Int → Bool) (s : DkS) : DkS := ⟨fun k => if Q k = true then s.fm k else none, s.ps, s.ser, s.boots⟩
def dropG (Q : Int → Bool) (s : DkS) (k : Int) : DkS := if Q k = true then s else dpS s k
theorem dropG_run (Q : Int → Bool) : ∀ (ys : List Int) (s : DkS), (ys.foldl (dropG Q) s).fm = (fun k => if k ∈ ys ∧ Q k = false then none else s.fm k) ∧ (ys.foldl (dropG Q) s).ps = s.ps ∧ (ys.foldl (dropG Q) s).ser = s.ser ∧ (ys.foldl (dropG Q) s).boots = s.boots
  | [], s => ⟨by funext k; simp, rfl, rfl, rfl⟩
  | y :: r, s => by
    obtain ⟨h1, h2, h3, h4⟩ := dropG_run Q r (dropG Q s y)
    have hp : (dropG Q s y).ps = s.ps ∧ (dropG Q s y).ser = s.ser ∧ (dropG Q s y).boots = s.boots := by unfold dropG; split <;> exact ⟨rfl, rfl, rfl⟩
    refine ⟨?_, h2.trans hp.1, h3.trans hp.2.1, h4.trans hp.2.2⟩
    rw [List.foldl_cons, h1]
    funext k
    unfold dropG dpS
    by_cases hq : Q y = true
    · rw [if_pos hq]
      by_cases hk : k ∈ r ∧ Q k = false
      · rw [if_pos hk, if_pos ⟨List.mem_cons_of_mem _ hk.1, hk.2⟩]
      · rw [if_neg hk, if_neg]
        rintro ⟨m1, m2⟩
        rcases List.mem_cons.1 m1 with e | m1
        · subst e; rw [hq] at m2; cases m2
        · exact hk ⟨m1, m2⟩
    · rw [if_neg hq]
      have hq2 : Q y = false := by simpa using hq
      by_cases hk : k ∈ r ∧ Q k = false
      · rw [if_pos hk, if_pos ⟨List.mem_cons_of_mem _ hk.1, hk.2⟩]
      · rw [if_neg hk]
        show (if k = y then none else s.fm k) = _
        by_cases e : k = y
        · subst e; rw [if_pos rfl, if_pos ⟨List.mem_cons_self .., hq2⟩]
        · rw [if_neg e, if_neg]
          rintro ⟨m1, m2⟩
          rcases List.mem_cons.1 m1 with e1 | m1
          · exact e e1
          · exact hk ⟨m1, m2⟩
theorem dropG_all {Q : Int → Bool} {s : DkS} {ys : List Int} (hK : KeysF s.fm ys) : ys.foldl (dropG Q) s = dropF Q s := by
  obtain ⟨h1, h2, h3, h4⟩ := dropG_run Q ys s
  cases hr : ys.foldl (dropG Q) s with
  | mk fm ps se bo =>
    rw [hr] at h1 h2 h3 h4
    dsimp only at h1 h2 h3 h4
    unfold dropF
    subst h1 h2 h3 h4
    congr 1
    funext k
    by_cases hq : Q k = true
    · rw [if_pos hq, if_neg (fun h => by rw [hq] at h; cases h.2)]
    · have hq2 : Q k = false := by simpa using hq
      rw [if_neg hq]
      by_cases hk : k ∈ ys
      · rw [if_pos ⟨hk, hq2⟩]
      · rw [if_neg (fun h => hk h.1)]
        have h9 : ¬ (s.fm k).isSome = true := fun h => hk ((hK.2 k).2 h)
        simpa using h9
theorem dropG_at {Q : Int → Bool} {s : DkS} {ys : List Int} {i : Nat} {y : Int} (h : ys[i]? = some y) : (ys.take (i + 1)).foldl (dropG Q) s = dropG Q ((ys.take i).foldl (dropG Q) s) y := by
  rw [List.take_add_one, h, List.foldl_append]; rfl
set_option maxRecDepth 100000 in
theorem save1_any (Bn : Nat) (next n : Int) (w : World) (hB : Boxed w Bn 3 (.int .i64 next)) : Calls Tryd.prog 44 #[.int .i64 n, .pointer (some ⟨Bn, 0, none⟩)] w fun e w' => e = .returned (.bool (decide (next ≤ n))) ∧ w = w' := by
  have cB := hB.cell
  clear hB
  go_enter Tryd.func44, Tryd.ntmps44
  go_wp2
  go_ret
  exact ⟨rfl, rfl⟩
set_option maxRecDepth 100000 in
theorem open1_any (Bf Bs : Nat) (first n : Int) (sa : Option Addr) (m cs : Nat) (w : World) (h1 : Boxed w Bf 3 (.int .i64 first)) (h2 : Boxed w Bs 53 (.slice sa m cs)) (hf : 1 ≤ first ∧ first ≤ 2000000000) (hm : m ≤ 1000000) :
    Calls Tryd.prog 42 #[.int .i64 n, .pointer (some ⟨Bf, 0, none⟩), .pointer (some ⟨Bs, 0, none⟩)] w fun e w' => e = .returned (.bool (decide (first ≤ n) && decide (n < first + (m : Int)))) ∧ Below w.heap.size w w' := by
  have c1 := h1.cell; have c2 := h2.cell
  obtain ⟨f1, f2⟩ := hf
  clear h1 h2
  by_cases hq : first ≤ n
  · have hd : decide (first ≤ n) = true := decide_eq_true hq
    go_enter Tryd.func42, Tryd.ntmps42
    go_wp2
    go_ret
    exact ⟨by first | rfl | (rw [hd]; rfl), Below.refl _ _⟩
  · have hd : decide (first ≤ n) = false := decide_eq_false hq
    go_enter Tryd.func42, Tryd.ntmps42
    go_wp2
    go_ret
    exact ⟨by first | rfl | (rw [hd]; rfl), Below.refl _ _⟩

set_option maxRecDepth 100000 in
set_option maxHeartbeats 4000000 in
theorem dropS_any {base : Zn} {d c : Nat} {s : DkS} (Bn : Nat) (next : Int) (w : World) (h : DObj base w d c s) (hc : c ≤ 1000000) (hps : s.ps.length = 0) (hB : Boxed w Bn 3 (.int .i64 next)) :
    Calls Tryd.prog 41 #[pt d 0, .func (.func 44) #[] #[.pointer (some ⟨Bn, 0, none⟩)]] w fun e w' => e = .returned (.tuple #[]) ∧ DObj base w' d c (dropF (fun k => decide (next ≤ k)) s) ∧ ButD base w w' := by
  have H := Lib.hid h; have HPS := Lib.hid hps; have HX0 := Lib.hid hB
  clear h hps hB
  go_enter Tryd.func41, Tryd.ntmps41
  simp only [pt]
  go_wp2_with fail
  refine (tFiles w H.out hc).mono ?_
  rintro e w1 ⟨ys, u, rfl, hr, hK, hl, hD1, hb1⟩
  obtain ⟨ao, cap, rfl, -, -⟩ := row_view hr
  have HR1 := Lib.hid hr; have HK := Lib.hid hK; have HD1 := Lib.hid hD1; have HB1 := Lib.hid hb1
  have HX1 := Lib.hid (boxD HX0.out int_off hb1)
  have hyl : ys.length ≤ 1000000 := by omega
  clear hr hK hD1 hb1 hl
  go_wp2
  go_loopg [9] (ys.length + 1) (fun g s9 wr => ∃ i : Nat, s9 = .int .i64 i ∧ i ≤ ys.length ∧ ys.length + 1 ≤ i + g ∧ Hid (wr.ownsRow w.heap.size 3 1 (.slice ao ys.length cap) ys.length (ys.flatMap (intE .i64))) ∧ Hid (DObj base wr d c ((ys.take i).foldl (dropG (fun k => decide (next ≤ k))) s)) ∧ Hid (ButD base w wr) ∧ Hid (Boxed wr Bn 3 (.int .i64 next)))
  case atStart => exact ⟨0, rfl, by omega, by omega, HR1, HD1, HB1, HX1⟩
  case round =>
    obtain ⟨i, rfl, hi, hg, HR, HD, HB, HX⟩ := hrel
    by_cases hlt : i < ys.length
    · obtain ⟨y, hy⟩ : ∃ y, ys[i]? = some y := ⟨_, List.getElem?_eq_getElem hlt⟩
      obtain ⟨ao', c', e, -, hat⟩ := row_view HR.out
      cases e
      obtain ⟨g2, rfl, -, hg2⟩ := hat i hlt
      rw [flat_ints, List.getElem?_map, hy] at hg2
      replace hg2 : wr.cell? ⟨g2, i, none⟩ = some (.int .i64 y) := hg2
      have hst := dropG_at (Q := (fun k => decide (next ≤ k))) (s := s) hy
      have hps2 := (dropG_run (fun k => decide (next ≤ k)) (ys.take i) s).2.1
      have HST := Lib.hid hst; have HPS2 : Hid (((ys.take i).foldl (dropG (fun k => decide (next ≤ k))) s).ps.length = 0) := Lib.hid (by rw [hps2]; exact HPS.out)
      clear hy hat hst hps2
      go_wp2_with fail
      refine (save1_any Bn next y wr HX.out).mono ?_
      rintro e w4 ⟨rfl, rfl⟩
      have hPe : decide (next ≤ y) = (fun k => decide (next ≤ k)) y := rfl
      rw [hPe]
      clear hPe
      cases hP : (fun k : Int => decide (next ≤ k)) y with
      | true =>
        have hS : (ys.take (i + 1)).foldl (dropG (fun k => decide (next ≤ k))) s = (ys.take i).foldl (dropG (fun k => decide (next ≤ k))) s := by rw [HST.out]; unfold dropG; rw [if_pos hP]
        have HS := Lib.hid hS; clear hS hP
        go_wp2
        go_roundg (gk - 1)
        case rel => exact ⟨i + 1, by go_num, by omega, by omega, HR, Lib.hid (by rw [HS.out]; exact HD.out), HB, HX⟩
        case measure => omega
      | false =>
        have hS : (ys.take (i + 1)).foldl (dropG (fun k => decide (next ≤ k))) s = dpS ((ys.take i).foldl (dropG (fun k => decide (next ≤ k))) s) y := by rw [HST.out]; unfold dropG; rw [if_neg (by rw [hP]; decide)]
        have HS := Lib.hid hS; clear hS hP
        go_wp2_with fail
        refine (tDrop _ y HD.out HPS2.out).mono ?_
        rintro e w5 ⟨rfl, hD5, hb5⟩
        have HR5 := Lib.hid (rowD HR.out int_off hb5); have HB5 := Lib.hid (butD_tr HB.out hb5); have HX5 := Lib.hid (boxD HX.out int_off hb5)
        have HD5 := Lib.hid hD5
        clear hD5 hb5
        go_wp2
        go_roundg (gk - 1)
        case rel => exact ⟨i + 1, by go_num, by omega, by omega, HR5, Lib.hid (by rw [HS.out]; exact HD5.out), HB5, HX5⟩
        case measure => omega
    · have hq : i = ys.length := by omega
      subst hq
      rw [List.take_length, dropG_all HK.out] at HD
      go_wp2
      go_end0
      exact ⟨rfl, HD.out, HB.out⟩

set_option maxRecDepth 100000 in
set_option maxHeartbeats 4000000 in
theorem dropO_any {base : Zn} {d c : Nat} {s : DkS} (Bf Bs : Nat) (first : Int) (sa : Option Addr) (m cs : Nat) (w : World) (h : DObj base w d c s) (hc : c ≤ 1000000) (hps : s.ps.length = 0) (h1 : Boxed w Bf 3 (.int .i64 first)) (h2 : Boxed w Bs 53 (.slice sa m cs)) (hf : 1 ≤ first ∧ first ≤ 2000000000) (hm : m ≤ 1000000) :
    Calls Tryd.prog 41 #[pt d 0, .func (.func 42) #[] #[.pointer (some ⟨Bf, 0, none⟩), .pointer (some ⟨Bs, 0, none⟩)]] w fun e w' => e = .returned (.tuple #[]) ∧ DObj base w' d c (dropF (fun k => decide (first ≤ k) && decide (k < first + (m : Int))) s) ∧ ButD base w w' := by
  have H := Lib.hid h; have HPS := Lib.hid hps; have HX0 := Lib.hid h1; have HY0 := Lib.hid h2; have HF := Lib.hid hf
  clear h hps h1 h2 hf
  go_enter Tryd.func41, Tryd.ntmps41
  simp only [pt]
  go_wp2_with fail
  refine (tFiles w H.out hc).mono ?_
  rintro e w1 ⟨ys, u, rfl, hr, hK, hl, hD1, hb1⟩
  obtain ⟨ao, cap, rfl, -, -⟩ := row_view hr
  have HR1 := Lib.hid hr; have HK := Lib.hid hK; have HD1 := Lib.hid hD1; have HB1 := Lib.hid hb1
  have HX1 := Lib.hid (boxD HX0.out int_off hb1); have HY1 := Lib.hid (boxD HY0.out (by decide) hb1)
  have hyl : ys.length ≤ 1000000 := by omega
  clear hr hK hD1 hb1 hl
  go_wp2
  go_loopg [9] (ys.length + 1) (fun g s9 wr => ∃ i : Nat, s9 = .int .i64 i ∧ i ≤ ys.length ∧ ys.length + 1 ≤ i + g ∧ Hid (wr.ownsRow w.heap.size 3 1 (.slice ao ys.length cap) ys.length (ys.flatMap (intE .i64))) ∧ Hid (DObj base wr d c ((ys.take i).foldl (dropG (fun k => decide (first ≤ k) && decide (k < first + (m : Int)))) s)) ∧ Hid (ButD base w wr) ∧ Hid (Boxed wr Bf 3 (.int .i64 first)) ∧ Hid (Boxed wr Bs 53 (.slice sa m cs)))
  case atStart => exact ⟨0, rfl, by omega, by omega, HR1, HD1, HB1, HX1, HY1⟩
  case round =>
    obtain ⟨i, rfl, hi, hg, HR, HD, HB, HX, HY⟩ := hrel
    by_cases hlt : i < ys.length
    · obtain ⟨y, hy⟩ : ∃ y, ys[i]? = some y := ⟨_, List.getElem?_eq_getElem hlt⟩
      obtain ⟨ao', c', e, -, hat⟩ := row_view HR.out
      cases e
      obtain ⟨g2, rfl, -, hg2⟩ := hat i hlt
      rw [flat_ints, List.getElem?_map, hy] at hg2
      replace hg2 : wr.cell? ⟨g2, i, none⟩ = some (.int .i64 y) := hg2
      have hst := dropG_at (Q := (fun k => decide (first ≤ k) && decide (k < first + (m : Int)))) (s := s) hy
      have hps2 := (dropG_run (fun k => decide (first ≤ k) && decide (k < first + (m : Int))) (ys.take i) s).2.1
      have HST := Lib.hid hst; have HPS2 : Hid (((ys.take i).foldl (dropG (fun k => decide (first ≤ k) && decide (k < first + (m : Int)))) s).ps.length = 0) := Lib.hid (by rw [hps2]; exact HPS.out)
      clear hy hat hst hps2
      go_wp2_with fail
      refine (open1_any Bf Bs first y sa m cs wr HX.out HY.out HF.out hm).mono ?_
      rintro e w4 ⟨rfl, hbo⟩
      have HX := Lib.hid (boxed_non HX.out (below_grown hbo) (fun r e => nomatch e)); have HY := Lib.hid (boxed_non HY.out (below_grown hbo) (fun r e => nomatch e)); have HR := Lib.hid (row_below HR.out hbo); have HD := Lib.hid (HD.out.call hbo); have HB := Lib.hid (butD_tr HB.out (But.of_below hbo)); clear hbo
      have hPe : (decide (first ≤ y) && decide (y < first + (m : Int))) = (fun k => decide (first ≤ k) && decide (k < first + (m : Int))) y := rfl
      rw [hPe]
      clear hPe
      cases hP : (fun k : Int => decide (first ≤ k) && decide (k < first + (m : Int))) y with
      | true =>
        have hS : (ys.take (i + 1)).foldl (dropG (fun k => decide (first ≤ k) && decide (k < first + (m : Int)))) s = (ys.take i).foldl (dropG (fun k => decide (first ≤ k) && decide (k < first + (m : Int)))) s := by rw [HST.out]; unfold dropG; rw [if_pos hP]
        have HS := Lib.hid hS; clear hS hP
        go_wp2
        go_roundg (gk - 1)
        case rel => exact ⟨i + 1, by go_num, by omega, by omega, HR, Lib.hid (by rw [HS.out]; exact HD.out), HB, HX, HY⟩
        case measure => omega
      | false =>
        have hS : (ys.take (i + 1)).foldl (dropG (fun k => decide (first ≤ k) && decide (k < first + (m : Int)))) s = dpS ((ys.take i).foldl (dropG (fun k => decide (first ≤ k) && decide (k < first + (m : Int)))) s) y := by rw [HST.out]; unfold dropG; rw [if_neg (by rw [hP]; decide)]
        have HS := Lib.hid hS; clear hS hP
        go_wp2_with fail
        refine (tDrop _ y HD.out HPS2.out).mono ?_
        rintro e w5 ⟨rfl, hD5, hb5⟩
        have HR5 := Lib.hid (rowD HR.out int_off hb5); have HB5 := Lib.hid (butD_tr HB.out hb5); have HX5 := Lib.hid (boxD HX.out int_off hb5); have HY5 := Lib.hid (boxD HY.out (by decide) hb5)
        have HD5 := Lib.hid hD5
        clear hD5 hb5
        go_wp2
        go_roundg (gk - 1)
        case rel => exact ⟨i + 1, by go_num, by omega, by omega, HR5, Lib.hid (by rw [HS.out]; exact HD5.out), HB5, HX5, HY5⟩
        case measure => omega
    · have hq : i = ys.length := by omega
      subst hq
      rw [List.take_length, dropG_all HK.out] at HD
      go_wp2
      go_end0
      exact ⟨rfl, HD.out, HB.out⟩
end Go.Proofs.YtfiplhnplmadmaaDoor

/- Package point: begin. Conditions: texts of at most 60000 bytes, at most 700 of them. -/
namespace Go.Proofs.YtfiplhnplmadmaaDoor
open Go.RowKit Go.PlainAid Go.Shelf
set_option linter.unusedVariables false

theorem syn_off : ∀ (ps : List PcT) (fm : Int → Option FileM) (k : Int), (∀ p ∈ ps, p.1 ≠ k) → synF fm ps k = fm k
  | [], fm, k, _ => rfl
  | p :: r, fm, k, h => by
    show synF (putF fm p.1 _) r k = _
    rw [syn_off r _ k (fun q hq => h q (List.mem_cons_of_mem _ hq))]
    unfold putF
    rw [if_neg (fun e => h p (List.mem_cons_self ..) e.symm)]
theorem pcs_ge (first : Int) : ∀ (xs : List ByteArray) (A : List WSeg), ∀ p ∈ pcsA first A xs, first ≤ p.1
  | [], A, p, hp => by cases hp
  | x :: r, A, p, hp => by
    rcases List.mem_cons.1 hp with rfl | hp
    · show first ≤ first + (atA A : Int); omega
    · exact pcs_ge first r _ p hp
theorem WSG.sync_old {s : DkS} {first : Int} {A : List WSeg} {xs : List ByteArray} {old : Int → Option FileM} {p0 : List PcT} (h : WSG s first A xs old p0) (hp : p0 = []) (ho : ∀ k, k < first → old k = none) : ∀ k, k < first → synF s.fm s.ps k = none := fun k hk => by
  rw [syn_off _ _ _ (fun p hp2 => by rw [h.ps, hp, List.nil_append] at hp2; have := pcs_ge first xs A p hp2; omega), h.on k, if_neg (by omega)]
  exact ho k hk
/-- A log that is begun behind all other files of a disk. -/
structure BgO (base : Zn) (d c m : Nat) (first : Int) (s : DkS) (xs : List ByteArray) (old : Int → Option FileM) (p0 : List PcT) (w : World) : Prop where
  obj : DObj base w d c s
  log : WSG s first [] xs old p0
  dk : DkI s m
  tab : Tab w
  b0 : ¬ base.P 0
  c1 : c ≤ 1000 + m
  m1 : m ≤ 800
  f1 : 1 ≤ first ∧ first ≤ 1000000000
  x1 : xs.length ≤ m
section
variable {base : Zn} {d c m : Nat} {first : Int} {s : DkS} {xs : List ByteArray} {old : Int → Option FileM} {p0 : List PcT} {w x : World}
theorem BgO.turn (h : BgO base d c m first s xs old p0 w) (hD : DObj base x d c s) (hb : ButD base w x) : BgO base d c m first s xs old p0 x := ⟨hD, h.log, h.dk, tab_butD h.tab hb h.b0, h.b0, h.c1, h.m1, h.f1, h.x1⟩
theorem BgO.below (h : BgO base d c m first s xs old p0 w) (hb : Below w.heap.size w x) : BgO base d c m first s xs old p0 x := h.turn (h.obj.call hb) (But.of_below hb)
theorem BgO.logR (h : BgO base d c m first s xs old p0 w) : LogR base d c s first (xs.foldl appA []) w := by
  have hl := run_len xs []
  have hx := h.x1; have hm := h.m1; have hc := h.c1
  simp only [List.length_nil] at hl
  refine ⟨h.obj, by omega, h.log.logs, ⟨h.f1.1, by have := h.f1.2; omega⟩, by omega, fun y hy => ?_, ?_, h.tab, h.b0⟩
  · obtain ⟨i, hi⟩ := List.getElem?_of_mem hy
    have h10 := h.dk.len (first + (i : Int))
    rw [((h.log.logs).2 i).2] at h10
    unfold bytA at h10
    rw [hi] at h10
    have h11 : ((y.b.data.toList.length : Nat) : Int) ≤ m * 1048576 := h10
    rw [list_len] at h11
    omega
  · rw [txt_run, List.length_append]; simp [txtA]; omega
theorem BgO.here (h : BgO base d c m first s xs old p0 w) : wrE (hereA first (xs.foldl appA [])) = 0 := by
  have hl := run_len xs []
  have hx := h.x1; have hm := h.m1
  simp only [List.length_nil] at hl
  have := at_le (xs.foldl appA []); have := h.f1
  exact here_ok h.f1.1 (by unfold hereA; omega)
set_option maxRecDepth 100000 in
set_option maxHeartbeats 4000000 in
theorem bgAppend {N : Nat} (w : World) (t : ByteArray) (hW : Blk w N 41 #[.bool true, pt d 0, .int .i64 first]) (h : BgO base d c m first s xs old p0 w) (hm : m ≤ 700) (hsz : t.size ≤ 65536) : Calls Tryd.prog 12 #[pt N 0, .string t] w fun e w' => e = .returned (.int .i64 0) ∧ BgO base d (c + 1) (m + 1) first (wrS s (hereA first (xs.foldl appA [])) (frameB t)) (xs ++ [t]) old p0 w' ∧ ButD base w w' := by
  have c0 := hW.cell (k := 0) rfl; have c1 : w.cell? ⟨N, 1, none⟩ = some (.pointer (some ⟨d, 0, none⟩)) := hW.cell (k := 1) rfl; have c2 := hW.cell (k := 2) rfl
  have H := Lib.hid h; have HM := Lib.hid hm; have HW := Lib.hid hW
  clear h hW hm
  go_enter Tryd.func12, Tryd.ntmps12
  simp only [pt]
  go_wp2_with fail
  refine (put_frame t w H.out.tab (by omega)).mono ?_
  rintro e w1 ⟨rfl, hb1⟩
  have e1 : putR t = (frameB t, 0) := by unfold putR; rw [if_neg (by omega)]
  rw [e1]; unfold putV
  have HB1 := Lib.hid hb1; have H1 := Lib.hid (H.out.below hb1)
  have hW1 := HW.out.below hb1
  have d1 : w1.cell? ⟨N, 1, none⟩ = some (.pointer (some ⟨d, 0, none⟩)) := hW1.cell (k := 1) rfl; have d2 := hW1.cell (k := 2) rfl
  have HW1 := Lib.hid hW1
  clear hb1 e1 hW1 c0 c1 c2
  dsimp only
  go_wp2_with fail
  go_region_law (first | (go_simp; go_at_call 33; refine (here_any first _ _ (H1.out.below (grown_below (drew_grown _))).logR).mono ?_; rintro e w2 ⟨rfl, h2, hb2⟩; have HW2 := HW1.out.below (grown_below (drew_grown _)); have hq := Blk.grW HW2 (by decide) hb2; have k1 : w2.cell? ⟨N, 1, none⟩ = some (.pointer (some ⟨d, 0, none⟩)) := hq.cell (k := 1) rfl; have k2 := hq.cell (k := 2) rfl; have H2 := Lib.hid (((H1.out.below (grown_below (drew_grown _))).turn h2 hb2)); have HB2 := Lib.hid hb2; clear h2 hb2 hq HW2) | (go_simp; go_at_call 28; refine (tWrite _ (hereA first (xs.foldl appA [])) (frameB t) H2.out.obj (H2.out.dk.hsz (by have := HM.out; omega) _ (by have := frameB_le hsz; omega)) (H2.out.dk.hpl (by have := HM.out; omega))).mono ?_; rintro e w3 ⟨rfl, h3, hb3⟩))
  all_goals (have hhr := H2.out.here; have HH := Lib.hid hhr; clear hhr; have HD3 := Lib.hid h3; have HB3 := Lib.hid hb3; clear h3 hb3; go_wp2; go_ret; exact ⟨by rw [HH.out]; rfl, ⟨HD3.out, H.out.log.write hsz HH.out, H.out.dk.write _ _ (by have := frameB_le hsz; omega), tab_butD H2.out.tab HB3.out H.out.b0, H.out.b0, by have := H.out.c1; omega, by have := HM.out; omega, H.out.f1, by have := H.out.x1; simp; omega⟩, butD_tr (butD_tr (But.of_below HB1.out) (butD_tr (But.of_below (grown_below (drew_grown _))) HB2.out)) HB3.out⟩)
end
theorem ta_nilP (w : World) : (Instr.typeAssert Value.nilIface 20 29 true).run Tryd.prog w = .ok (.tuple #[.int .i64 0, .bool false]) w := by kernel_rfl
set_option maxRecDepth 100000 in
set_option maxHeartbeats 1600000 in
theorem bg_idle (p q r t : Addr) (w : World) :
    CallsD Tryd.prog 51 #[.pointer (some p), .pointer (some q), .pointer (some r), .pointer (some t)] .returning w fun e u' w' => e = .returned (.tuple #[]) ∧ u' = .returning ∧ w' = w := by
  refine callsD_of_wpS Tryd.func51 rfl fun c₀ cs hu => ?_
  apply wpS_seq
  apply wpS_region
  simp [wpOpsS, go_sem, recoverD, hu, Tryd.ntmps51, Exit.thenS, ta_nilP]
  apply wpS_seq
  apply wpS_region
  simp [wpOpsS, go_sem, recoverD, hu, Exit.thenS]
  refine wpS_cond (t := false) (by simp [Act.eval, Array.replicate]) ?_
  simp only [Bool.false_eq_true, if_false]
  refine wpS_of_wp (wp_skip ?_)
  cases c₀
  simp_all [bodyPostS, results, Tryd.results51]
set_option maxRecDepth 100000 in
theorem must_ok (w : World) : Calls Tryd.prog 54 #[.int .i64 0] w fun e w' => e = .returned (.tuple #[]) ∧ w = w' := by
  go_enter Tryd.func54, Tryd.ntmps54
  go_wp2
  go_end0
  exact ⟨rfl, rfl⟩
/-- The boxes of begin. -/
structure BgX (n0 d : Nat) (W : World) : Prop where
  bd : Boxed W n0 25 (pt d 0)
  bl : Blk W (n0 + 1) 59 #[.pointer none, .int .i64 0, .pointer none]
  be : Boxed W (n0 + 1 + 1) 29 (.int .i64 0)
theorem BgX.turn {base : Zn} {n0 d : Nat} {W X : World} (h : BgX n0 d W) (hb : ButD base W X) : BgX n0 d X := ⟨boxD h.bd (by decide) hb, blkD h.bl (by decide) hb, boxD h.be (by decide) hb⟩
theorem BgX.below {n0 d : Nat} {W X : World} (h : BgX n0 d W) (hb : Below W.heap.size W X) : BgX n0 d X := h.turn (base := Zn.nat 0) (But.of_below hb)
set_option maxRecDepth 100000 in
set_option maxHeartbeats 8000000 in
theorem begin_any {base : Zn} {d c m : Nat} {first : Int} {s : DkS} {old : Int → Option FileM} {p0 : List PcT} (v : Value) (l : List ByteArray) (w : World) (h : BgO base d c m first s [] old p0 w) (hs : ∀ X, ButD base w X → SliceOf strE 1 X v l) (hl : l.length + m ≤ 600) (hsz : ∀ z ∈ l, z.size ≤ 60000) :
    Calls Tryd.prog 37 #[pt d 0, .int .i64 first, v] w fun e w' => ∃ (N c' : Nat) (s' : DkS) (old' : Int → Option FileM), e = .returned (.tuple #[.agg #[pt d 0, .int .i64 first, pt N 0], .int .i64 0]) ∧ (Blk w' N 41 #[.bool true, pt d 0, .int .i64 first] ∧ base.P N) ∧
      WSG s' first ((hdP l.length :: l.map tT).foldl appA []) [] old' [] ∧ DObj base w' d c' s' ∧ c' ≤ 5000 ∧ DkI s' (m + l.length + 1) ∧ s'.boots = s.boots ∧ ButD base w w' ∧ (p0 = [] → (∀ k, k < first → old k = none) → ∀ k, k < first → old' k = none) := by
  have hmf : ∀ (fn : Fn) (first cap : Array Value) (w : World), (Instr.makeFunc fn first cap).run Tryd.prog w = .ok (.func fn first cap) w := fun _ _ _ _ => rfl
  have H := Lib.hid h; have HS := Lib.hid hs; have HL := Lib.hid hl; have HSZ := Lib.hid hsz
  clear h hs hl hsz
  go_enter_defers Tryd.func37, Tryd.ntmps37
  simp only [pt]
  go_wp2_with fail
  obtain ⟨n0, hn0⟩ : ∃ n, n = w.heap.size := ⟨_, rfl⟩
  have hB0 : Below w.heap.size w (((w.alloc (.cells #[.pointer (some ⟨d, 0, none⟩)] 25)).alloc (.cells #[.pointer none, .int .i64 0, .pointer none] 59)).alloc (.cells #[.int .i64 0] 29)) := (((Below.refl _ w).alloc (Nat.le_refl _) _).alloc (by simp) _).alloc (by simp; omega) _
  have hX0 : BgX w.heap.size d (((w.alloc (.cells #[.pointer (some ⟨d, 0, none⟩)] 25)).alloc (.cells #[.pointer none, .int .i64 0, .pointer none] 59)).alloc (.cells #[.int .i64 0] 29)) := by
    refine ⟨((Boxed.new w _ _).alloc _).alloc _, ?_, ?_⟩
    · have h1 := World.alloc_heap_new (w.alloc (.cells #[.pointer (some ⟨d, 0, none⟩)] 25)) (.cells #[.pointer none, .int .i64 0, .pointer none] 59)
      rw [World.size_alloc] at h1
      exact (Blk.kept (show Blk _ (w.heap.size + 1) _ _ from h1) (World.grownBy_alloc _ _ none) (by simp))
    · have h1 := Boxed.new ((w.alloc (.cells #[.pointer (some ⟨d, 0, none⟩)] 25)).alloc (.cells #[.pointer none, .int .i64 0, .pointer none] 59)) 29 (.int .i64 0)
      rw [World.size_alloc, World.size_alloc] at h1; exact h1
  obtain ⟨W0, hW0⟩ : ∃ W0, (((w.alloc (.cells #[.pointer (some ⟨d, 0, none⟩)] 25)).alloc (.cells #[.pointer none, .int .i64 0, .pointer none] 59)).alloc (.cells #[.int .i64 0] 29)) = W0 := ⟨_, rfl⟩
  rw [hW0] at hB0 hX0 ⊢
  have H0 := Lib.hid (H.out.below hB0); have HX0 := Lib.hid hX0; have HB0 : Hid (ButD base w W0) := Lib.hid (But.of_below hB0)
  clear hW0 hB0 hX0
  rw [← hn0] at HX0 ⊢
  have HN0 := Lib.hid hn0; clear hn0
  refine (tFiles W0 H0.out.obj (by have := H0.out.c1; have := H0.out.m1; omega)).mono ?_
  rintro e w1 ⟨ys, u, rfl, hr1, -, -, hD1, hb1⟩
  obtain ⟨ua, un, uc, rfl⟩ := own_slice hr1
  have H1 := Lib.hid (H0.out.turn hD1 hb1); have HX1 := Lib.hid (HX0.out.turn hb1); have HB1 := Lib.hid (butD_tr HB0.out hb1)
  have k1 := HX1.out.bd.cell
  have kl := HX1.out.bd.lt
  simp only [pt] at k1
  clear hr1 hD1 hb1
  go_wp2_with fail
  have hg2 := World.grownBy_alloc w1 (.cells #[.slice ua un uc] 53) none
  obtain ⟨w2, hw2⟩ : ∃ w2, w2 = w1.alloc (.cells #[.slice ua un uc] 53) := ⟨_, rfl⟩
  rw [← hw2] at hg2 ⊢
  have H2 := Lib.hid (H1.out.below (grown_below hg2)); have HX2 := Lib.hid (HX1.out.below (grown_below hg2)); have HB2 := Lib.hid (butD_tr HB1.out (But.of_below (grown_below hg2)))
  have HW2 := Lib.hid hw2
  clear hw2 hg2 k1
  refine (wopen_any first [] w2 H2.out.logR).mono ?_
  rintro e w3 ⟨N, u3, rfl, ⟨hW3, hNlo⟩, -, hD3, hb3⟩
  have HPN : Hid (base.P N) := Lib.hid (base.up _ (Nat.le_trans H2.out.obj.lo hNlo)); clear hNlo
  have H3 := Lib.hid (H2.out.turn hD3 hb3); have HX3 := Lib.hid (HX2.out.turn hb3); have HB3 := Lib.hid (butD_tr HB2.out hb3); have HW3 := Lib.hid hW3
  clear hW3 hD3 hb3
  simp only [pt]
  go_wp2_with fail
  refine (must_ok w3).mono ?_
  rintro e w3' ⟨rfl, rfl⟩
  have hsl := HS.out w3 HB3.out
  obtain ⟨va, vc, rfl, -⟩ := hsl
  have hll := HL.out
  go_wp2_with fail
  refine (put_any (l.length : Int) w3 (by omega) (by omega)).mono ?_
  rintro e w4 ⟨rfl, hb4⟩
  have H4 := Lib.hid (H3.out.below hb4); have HX4 := Lib.hid (HX3.out.below hb4); have HB4 := Lib.hid (butD_tr HB3.out (But.of_below hb4)); have HW4 := Lib.hid (HW3.out.below hb4)
  have hds := hd_size l.length
  have hdl := lenOf_bd (l.length : Int)
  obtain ⟨P, hP⟩ : ∃ P : ByteArray, P = ⟨(putL (l.length : Int)).toArray⟩ := ⟨_, rfl⟩
  have hPd : (⟨#[80]⟩ : ByteArray) ++ P = hdP l.length := by rw [hP]; rfl
  have hPs : P.size ≤ 9 := by
    have h1 : (hdP l.length).size = P.size + 1 := by rw [← hPd, one_size]
    omega
  rw [← hP]
  have HPD := Lib.hid hPd
  clear hb4 hds hdl hP hPd
  go_wp2_with fail
  have hPz : (hdP l.length).size ≤ 10 := by rw [← HPD.out, one_size]; omega
  rw [HPD.out]
  refine (bgAppend w4 (hdP l.length) HW4.out H4.out (by omega) (by omega)).mono ?_
  rintro e w5 ⟨rfl, h5, hb5⟩
  have H5 := Lib.hid h5; have HX5 := Lib.hid (HX4.out.turn hb5); have HB5 := Lib.hid (butD_tr HB4.out hb5); have HW5 := Lib.hid (HW4.out.grW (by decide) hb5)
  have hbo : (wrS s (hereA first (([] : List ByteArray).foldl appA [])) (frameB (hdP l.length))).boots = s.boots := by unfold wrS; split <;> rfl
  have HBO := Lib.hid hbo
  clear h5 hb5 hbo
  go_wp2_with fail
  refine (must_ok w5).mono ?_
  rintro e w5' ⟨rfl, rfl⟩

  go_wp2_with fail
  go_loopg [36] (l.length + 1) (fun g s36 wr => ∃ (i : Nat) (si : DkS), s36 = .int .i64 i ∧ i ≤ l.length ∧ l.length + 1 ≤ i + g ∧ si.boots = s.boots ∧ Hid (BgO base d (c + 1 + i) (m + 1 + i) first si (hdP l.length :: (l.take i).map tT) old p0 wr) ∧ Hid (BgX n0 d wr) ∧ Hid (Blk wr N 41 #[.bool true, pt d 0, .int .i64 first]) ∧ Hid (ButD base w wr))
  case atStart => exact ⟨0, _, rfl, by omega, by omega, HBO.out, H5, HX5, HW5, HB5⟩
  case round =>
    obtain ⟨i, si, rfl, hi, hg, hbo, HI, HXI, HWI, HBI⟩ := hrel
    by_cases hlt : i < l.length
    · obtain ⟨va', vc', e, -, -, -, hat⟩ := HS.out wr HBI.out
      cases e
      obtain ⟨gb, go, rfl, hr⟩ := hat i hlt
      have hz1 := HSZ.out l[i] (List.getElem_mem hlt)
      have hz : l[i]? = some l[i] := List.getElem?_eq_getElem hlt
      obtain ⟨z, hzz⟩ : ∃ z, z = l[i] := ⟨_, rfl⟩
      rw [← hzz] at hz1 hr hz
      have hg2 : wr.cell? ⟨gb, go + i, none⟩ = some (.string z) := by
        have h9 := hr 0 (.string z) rfl
        rw [Nat.mul_one] at h9
        exact h9
      have hTd : (⟨#[84]⟩ : ByteArray) ++ z = tT z := rfl
      have HTD := Lib.hid hTd; have HZ := Lib.hid hz; have HLT := Lib.hid hlt
      clear hat hr hzz hTd hz
      go_wp2_with fail
      have hTz : (tT z).size ≤ 60001 := by rw [← HTD.out, one_size]; omega
      rw [HTD.out]
      refine (bgAppend wr (tT z) HWI.out HI.out (by omega) (by omega)).mono ?_
      rintro e w6 ⟨rfl, h6, hb6⟩
      have HX6 := Lib.hid (HXI.out.turn hb6); have HB6 := Lib.hid (butD_tr HBI.out hb6); have HW6 := Lib.hid (HWI.out.grW (by decide) hb6)
      have hbo6 : (wrS si (hereA first ((hdP l.length :: (l.take i).map tT).foldl appA [])) (frameB (tT z))).boots = s.boots := by unfold wrS; split <;> exact hbo
      have hls : (hdP l.length :: (l.take i).map tT) ++ [tT z] = hdP l.length :: (l.take (i + 1)).map tT := by
        rw [List.take_add_one, HZ.out, List.map_append]; rfl
      rw [hls] at h6
      have H6 := Lib.hid h6; have HBO6 := Lib.hid hbo6
      clear h6 hb6 hbo6 hls hbo
      go_wp2_with fail
      refine (must_ok w6).mono ?_
      rintro e w6' ⟨rfl, rfl⟩
      go_wp2
      go_roundg (gk - 1)
      case rel => exact ⟨i + 1, _, by go_num, HLT.out, by omega, HBO6.out, H6, HX6, HW6, HB6⟩
      case measure => omega
    · have hq : i = l.length := by omega
      subst hq
      rw [List.take_length] at HI
      have k1 := HXI.out.bd.cell
      simp only [pt] at k1
      have HBOI := Lib.hid hbo
      clear hbo
      go_wp2_with fail
      refine (tSync wr HI.out.obj (HI.out.dk.hsb (by have := HI.out.m1; omega))).mono ?_
      rintro e w7 ⟨rfl, hD7, hb7⟩
      have HX7 := Lib.hid (HXI.out.turn hb7); have HB7 := Lib.hid (butD_tr HBI.out hb7); have HW7 := Lib.hid (HWI.out.grW (by decide) hb7); have HD7 := Lib.hid hD7
      have k2 := HX7.out.bd.cell
      simp only [pt] at k2
      clear hD7 hb7 k1
      have f0 := HX7.out.bl.frozen 0; have f1 := HX7.out.bl.frozen 1; have f2 := HX7.out.bl.frozen 2
      have d0 := HX7.out.bl.cell (k := 0) rfl; have d1 := HX7.out.bl.cell (k := 1) rfl; have d2 := HX7.out.bl.cell (k := 2) rfl
      have g0 := (Boxed.blkW HX7.out.be).frozen 0; have e0 := HX7.out.be.cell
      go_wp2
      have hnW : N ≠ n0 + 1 := fun e => by have h1 := HW7.out; rw [e] at h1; exact absurd (Option.some.inj (h1.symm.trans HX7.out.bl)) (by simp)
      have hnE : N ≠ n0 + 1 + 1 := fun e => by have h1 := HW7.out; rw [e] at h1; exact absurd (Option.some.inj (h1.symm.trans (Boxed.blkW HX7.out.be))) (by simp)
      have hne1 : n0 + 1 ≠ n0 + 1 + 1 := by omega
      have q0 := setCell_blk HX7.out.bl 0 (.pointer (some ⟨d, 0, none⟩))
      have q1 := setCell_blk q0 1 (.int .i64 first)
      have q2 := setCell_blk q1 2 (.pointer (some ⟨N, 0, none⟩))
      have q3 := q2.kept (grown_setCell _ (n0 + 1 + 1) 0 (.int .i64 0)) (fun e => hne1 (Option.some.inj e).symm)
      have r0 := (Boxed.blkW HX7.out.be).kept (grown_setCell _ (n0 + 1) 0 (.pointer (some ⟨d, 0, none⟩))) (fun e => hne1 (Option.some.inj e))
      have r1 := r0.kept (grown_setCell _ (n0 + 1) 1 (.int .i64 first)) (fun e => hne1 (Option.some.inj e))
      have r2 := r1.kept (grown_setCell _ (n0 + 1) 2 (.pointer (some ⟨N, 0, none⟩))) (fun e => hne1 (Option.some.inj e))
      have r3 := setCell_blk r2 0 (.int .i64 0)
      have n1 := HW7.out.kept (grown_setCell _ (n0 + 1) 0 (.pointer (some ⟨d, 0, none⟩))) (fun e => hnW (Option.some.inj e).symm)
      have n2 := n1.kept (grown_setCell _ (n0 + 1) 1 (.int .i64 first)) (fun e => hnW (Option.some.inj e).symm)
      have n3 := n2.kept (grown_setCell _ (n0 + 1) 2 (.pointer (some ⟨N, 0, none⟩))) (fun e => hnW (Option.some.inj e).symm)
      have n4 := n3.kept (grown_setCell _ (n0 + 1 + 1) 0 (.int .i64 0)) (fun e => hnE (Option.some.inj e).symm)
      have o1 := HD7.out.at HX7.out.bl (by decide) (grown_setCell _ (n0 + 1) 0 (.pointer (some ⟨d, 0, none⟩)))
      have o2 := o1.at q0 (by decide) (grown_setCell _ (n0 + 1) 1 (.int .i64 first))
      have o3 := o2.at q1 (by decide) (grown_setCell _ (n0 + 1) 2 (.pointer (some ⟨N, 0, none⟩)))
      have o4 := o3.at r2 (by decide) (grown_setCell _ (n0 + 1 + 1) 0 (.int .i64 0))
      have hn9 := HN0.out
      have b4 := (((HB7.out.setCell (p := ⟨n0 + 1, 0, none⟩) (fun hp => absurd hp (by simp only; omega)) (.pointer (some ⟨d, 0, none⟩))).setCell (p := ⟨n0 + 1, 1, none⟩) (fun hp => absurd hp (by simp only; omega)) (.int .i64 first)).setCell (p := ⟨n0 + 1, 2, none⟩) (fun hp => absurd hp (by simp only; omega)) (.pointer (some ⟨N, 0, none⟩))).setCell (p := ⟨n0 + 1 + 1, 0, none⟩) (fun hp => absurd hp (by simp only; omega)) (.int .i64 0)
      obtain ⟨W8, hW8⟩ : ∃ W8, ((((w7.setCell ⟨n0 + 1, 0, none⟩ (.pointer (some ⟨d, 0, none⟩))).setCell ⟨n0 + 1, 1, none⟩ (.int .i64 first)).setCell ⟨n0 + 1, 2, none⟩ (.pointer (some ⟨N, 0, none⟩))).setCell ⟨n0 + 1 + 1, 0, none⟩ (.int .i64 0)) = W8 := ⟨_, rfl⟩
      rw [hW8] at q3 r3 n4 o4 b4 ⊢
      have x0 := q3.cell (k := 0) rfl; have x1 := q3.cell (k := 1) rfl; have x2 := q3.cell (k := 2) rfl; have x3 := r3.cell (k := 0) rfl
      have X0 := Lib.hid x0; have X1 := Lib.hid x1; have X2 := Lib.hid x2; have X3 := Lib.hid x3; have XN := Lib.hid n4; have XO := Lib.hid o4; have XB := Lib.hid b4
      clear hW8 q0 q1 q2 q3 r0 r1 r2 r3 n1 n2 n3 n4 o1 o2 o3 o4 b4 f0 f1 f2 d0 d1 d2 g0 e0 hn9 hnW hnE hne1 x0 x1 x2 x3
      refine leaves_cons (f := 51) (args := #[.pointer (some ⟨n0, 0, none⟩), .pointer (some ⟨w1.heap.size, 0, none⟩), .pointer (some ⟨n0 + 1, 0, none⟩), .pointer (some ⟨n0 + 1 + 1, 0, none⟩)]) (by simp) (by simp [go_sem]) ?_
      refine (bg_idle _ _ _ _ _).mono ?_
      rintro e u' w'' ⟨rfl, rfl, rfl⟩
      simp only [Leaves, settle, results, Tryd.results37]
      have x0 := X0.out; have x1 := X1.out; have x2 := X2.out; have x3 := X3.out
      simp [go_sem, x0, x1, x2, x3]
      exact ⟨⟨XN.out, HPN.out⟩, c + 1 + l.length + si.ps.length, _, _, HI.out.log.sync, XO.out, (by have := HI.out.c1; have := HI.out.m1; have := HI.out.dk.pl; omega), HI.out.dk.sync.1.up (by omega), HBOI.out, XB.out, fun e1 e2 k hk => by (rw [if_neg (by omega)]; exact HI.out.log.sync_old e1 e2 k hk)⟩
end Go.Proofs.YtfiplhnplmadmaaDoor

/- Package point: a point as one object; Append, Sync, Texts, New, Save on it. Conditions: at most 600 calls. -/
namespace Go.Proofs.YtfiplhnplmadmaaDoor
open Go.RowKit Go.PlainAid Go.Shelf
set_option linter.unusedVariables false

/-- A point that holds texts L; 'sure' of them are safe, cp of them came with the checkpoint; m calls at most. -/
def PtO (base : Zn) (w : World) (d m p : Nat) (L : List ByteArray) (sure cp : Nat) (A : List WSeg) : Prop :=
  ∃ (first : Int) (xs : List ByteArray) (N : Nat), Blk w p 61 #[.bool true, pt d 0, .int .i64 first, pt N 0] ∧ Blk w N 41 #[.bool true, pt d 0, .int .i64 first] ∧ WlO base w d m first A xs ∧
    txtA A = hdP cp :: (L.take sure).map tT ∧ xs = (L.drop sure).map tT ∧ cp ≤ sure ∧ sure ≤ L.length ∧ (first ≤ 1 + (m : Int) * 1000 ∧ base.P p ∧ base.P N)
section
variable {base : Zn} {d m p : Nat} {L : List ByteArray} {sure cp : Nat} {A : List WSeg} {w x : World}
theorem PtO.turnD (h : PtO base w d m p L sure cp A) (hD : ∀ m first A xs, WlO base w d m first A xs → WlO base x d m first A xs) (hb : ButD base w x) : PtO base x d m p L sure cp A := by
  obtain ⟨first, xs, N, h1, h2, h3, h4⟩ := h; exact ⟨first, xs, N, blkD h1 (by decide) hb, blkD h2 (by decide) hb, hD _ _ _ _ h3, h4⟩
theorem PtO.call (h : PtO base w d m p L sure cp A) (hb : Below w.heap.size w x) : PtO base x d m p L sure cp A := h.turnD (fun _ _ _ _ h => h.call hb) (But.of_below hb)
theorem PtO.new (h : PtO base w d m p L sure cp A) (hg : w.grownBy x none) : PtO base x d m p L sure cp A := by
  obtain ⟨first, xs, N, h1, h2, h3, h4⟩ := h; exact ⟨first, xs, N, h1.kept hg (fun e => nomatch e), h2.kept hg (fun e => nomatch e), h3.new hg, h4⟩
theorem PtO.row {B sz k : Nat} {e : TypeId} {v : Value} {ys : List Value} (h : PtO base w d m p L sure cp A) (hr : w.ownsRow B e sz v k ys) (hT : offD e) (hP : e ≠ 61) (hW : e ≠ 41) (hg : w.grownBy x v.ownBlock) : PtO base x d m p L sure cp A := by
  obtain ⟨first, xs, N, h1, h2, h3, h4⟩ := h; exact ⟨first, xs, N, h1.kept hg (own_neT hr h1 hP), h2.kept hg (own_neT hr h2 hW), h3.row hr hT hg, h4⟩
theorem PtO.up {m' : Nat} (h : PtO base w d m p L sure cp A) (hm : m ≤ m') : PtO base w d m' p L sure cp A := by
  obtain ⟨first, xs, N, h1, h2, h3, h4, h5, h6, h7, h8⟩ := h; exact ⟨first, xs, N, h1, h2, h3.up hm, h4, h5, h6, h7, by omega, h8.2⟩
theorem PtO.eq {L' : List ByteArray} {s' : Nat} {A' : List WSeg} (h : PtO base w d m p L sure cp A) (e1 : L = L') (e2 : sure = s') (e3 : A = A') : PtO base w d m p L' s' cp A' := by subst e1 e2 e3; exact h
theorem PtO.len (h : PtO base w d m p L sure cp A) : L.length ≤ m ∧ sure ≤ L.length ∧ cp ≤ sure := by
  obtain ⟨first, xs, N, h1, h2, h3, h4, h5, h6, h7, h8⟩ := h
  have := h3.len.2
  rw [h4, h5, List.length_cons, List.length_map, List.length_map, List.length_take, List.length_drop] at this
  omega
set_option maxRecDepth 100000 in
theorem pzero_any {a b c : Value} (w : World) (hB : Blk w p 61 #[.bool true, a, b, c]) : Calls Tryd.prog 38 #[pt p 0] w fun e w' => e = .returned (.bool false) ∧ w = w' := by
  have c0 := hB.cell (k := 0) rfl
  clear hB
  go_enter Tryd.func38, Tryd.ntmps38
  simp only [pt]
  go_wp2
  go_ret
  exact ⟨rfl, rfl⟩
set_option maxRecDepth 100000 in
set_option maxHeartbeats 4000000 in
theorem ptAppend (w : World) (t : ByteArray) (h : PtO base w d m p L sure cp A) (hm : m ≤ 800) (ht : Tab w) (hb : ¬ base.P 0) (hsz : t.size ≤ 60000) : Calls Tryd.prog 21 #[pt p 0, .string t] w fun e w' => e = .returned (.int .i64 0) ∧ PtO base w' d (m + 1) p (L ++ [t]) sure cp A ∧ ButD base w w' := by
  obtain ⟨first, xs, N, h1, h2, h3, h4, h5, h6, h7, h8⟩ := h
  have c3 : w.cell? ⟨p, 3, none⟩ = some (.pointer (some ⟨N, 0, none⟩)) := h1.cell (k := 3) rfl
  have H1 := Lib.hid h1; have H2 := Lib.hid h2; have H3 := Lib.hid h3; have HT := Lib.hid ht; have H4 := Lib.hid h4; have H5 := Lib.hid h5
  have hTd : (⟨#[84]⟩ : ByteArray) ++ t = tT t := rfl
  have HTD := Lib.hid hTd
  clear h1 h2 h3 ht h4 h5 hTd
  go_enter Tryd.func21, Tryd.ntmps21
  simp only [pt]
  go_wp2_with fail
  refine (pzero_any w H1.out).mono ?_
  rintro e w1 ⟨rfl, rfl⟩
  have hsq : decide ((65536 : Int) ≤ (t.size : Int)) = false := decide_eq_false (by omega)
  have HSZ := Lib.hid hsz
  have hszz : t.size ≤ 9223372036854775000 := Nat.le_trans hsz (by decide)
  clear hsz
  go_wp2_with fail
  have hTz : (tT t).size ≤ 60001 := by have := HSZ.out; rw [← HTD.out, one_size]; omega
  rw [HTD.out]
  refine (wlAppend w (tT t) H2.out H3.out hm HT.out hb (by omega)).mono ?_
  rintro e w2 ⟨rfl, h9, hb9⟩
  have H9 := Lib.hid h9; have HB9 := Lib.hid hb9
  clear h9 hb9
  go_wp2
  go_ret
  refine ⟨rfl, ⟨first, _, N, blkD H1.out (by decide) HB9.out, blkD H2.out (by decide) HB9.out, H9.out, ?_, ?_, h6, by simp; omega, by omega, h8.2⟩, HB9.out⟩
  · rw [H4.out, List.take_append_of_le_length h7]
  · rw [H5.out, List.drop_append_of_le_length h7, List.map_append]; rfl
set_option maxRecDepth 100000 in
set_option maxHeartbeats 4000000 in
theorem ptTexts (w : World) (h : PtO base w d m p L sure cp A) (hm : m ≤ 900) (ht : Tab w) (hb : ¬ base.P 0) : Calls Tryd.prog 23 #[pt p 0] w fun e w' => ∃ u : Value, e = .returned u ∧ w'.ownsRow w.heap.size 9 1 u L.length (L.flatMap strE) ∧ PtO base w' d m p L sure cp A ∧ ButD base w w' := by
  have hln := h.len
  obtain ⟨first, xs, N, h1, h2, h3, h4, h5, h6, h7, h8⟩ := h
  have hL : ownB (txtA A ++ xs) = L := by rw [h4, h5, List.cons_append, ← List.map_append, List.take_append_drop, own_log]
  have hLn : (txtA A ++ xs).length ≤ 1000000 := by rw [List.length_append]; have := h3.len.2; omega
  have c1 : w.cell? ⟨p, 1, none⟩ = some (.pointer (some ⟨d, 0, none⟩)) := h1.cell (k := 1) rfl
  have c2 := h1.cell (k := 2) rfl
  have H1 := Lib.hid h1; have H2 := Lib.hid h2; have H3 := Lib.hid h3; have H4 := Lib.hid h4; have H5 := Lib.hid h5; have HT := Lib.hid ht; have HLL := Lib.hid hL
  have HM := Lib.hid hm
  clear h1 h2 h3 h4 h5 ht hL hm
  go_enter Tryd.func23, Tryd.ntmps23
  simp only [pt]
  go_wp2_with fail
  refine (pzero_any w H1.out).mono ?_
  rintro e w1 ⟨rfl, rfl⟩
  go_wp2_with fail
  go_region_law (go_simp; go_at_call 16; refine (wlRead _ (H3.out.new (drew_grown _)) HM.out (HT.out.below (grown_below (drew_grown _))) hb).mono ?_; rintro e w2 ⟨u2, rfl, hr2, h9, hb9⟩)
  all_goals (have hsz2 := (grown_below (drew_grown w)).size; have hr3 := row_lows hr2 hsz2; have HR2 := Lib.hid hr3; have H9 := Lib.hid h9; have HB9 := Lib.hid (butD_tr (But.of_below (grown_below (drew_grown w))) hb9); clear hr2 h9 hb9 hsz2 hr3; go_wp2_with fail)
  all_goals (refine (own_any u2 _ w2 (SliceOf.own HR2.out (fun _ _ => rfl)) hLn).mono ?_; rintro e w3 ⟨u3, rfl, hr3, hb3⟩; have hsz3 := HB9.out.size; rw [HLL.out] at hr3; have hr4 := row_lows hr3 hsz3; have HR3 := Lib.hid hr4; have HB3 := Lib.hid hb3; clear hr3 hr4 hb3)
  all_goals (go_wp2; go_ret; exact ⟨_, rfl, HR3.out, ⟨first, xs, N, (blkD H1.out (by decide) HB9.out).below HB3.out, (blkD H2.out (by decide) HB9.out).below HB3.out, H9.out.call HB3.out, H4.out, H5.out, h6, h7, h8⟩, butD_tr HB9.out (But.of_below HB3.out)⟩)
/-- What Save changes: the disk's, and the point. -/
abbrev ButP (base : Zn) (p : Nat) (w x : World) : Prop := But (fun k => SD base w k ∨ k = p) w x
theorem butP_of (hb : ButD base w x) : ButP base p w x := hb.mono (fun k _ hk => .inl hk)
theorem butP_tr {A B : World} (h : ButP base p w A) (g : ButD base A B) : ButP base p w B :=
  h.trans' g (fun i hi hs => by
    by_cases hq : SD base w i ∨ i = p
    · exact hq
    · have e := h.block i hi hq
      have h2 := hs.2
      unfold TyS at h2; rw [e] at h2; exact .inl ⟨hs.1, h2⟩)
theorem rowP {B sz k : Nat} {e : TypeId} {v : Value} {ys : List Value} {cs : Array Value} (hr : w.ownsRow B e sz v k ys) (hT : offD e) (hb : ButP base p w x) (hp : Blk w p 61 cs) (hP : e ≠ 61) : x.ownsRow B e sz v k ys :=
  row_same hr hb.size fun i hi => by
    obtain ⟨cs2, hc⟩ := rowblk hr hi
    refine hb.block i (Array.getElem?_eq_some_iff.1 hc).1 (fun h => ?_)
    rcases h with h | h
    · exact not_ty hc hT h.2
    · subst h; exact own_neT hr hp hP hi
theorem hbP {w0 : World} (h : Below w0.heap.size w0 w) (hb : ButP w0.heap.size p w x) (hp : w0.heap.size ≤ p) : Below w0.heap.size w0 x := below_but h hb h.size (fun i _ h => by rcases h with h | h; exact h.1; omega)
theorem PtO.blk (h : PtO base w d m p L sure cp A) : ∃ cs, Blk w p 61 cs := by obtain ⟨first, xs, N, h1, -⟩ := h; exact ⟨_, h1⟩
theorem PtO.lo (h : PtO base w d m p L sure cp A) : base.P p := by obtain ⟨first, xs, N, h1, h2, h3, h4, h5, h6, h7, h8⟩ := h; exact h8.2.1
end
end Go.Proofs.YtfiplhnplmadmaaDoor

/- Package point: a crash keeps a log's beginning. Conditions: none. -/
namespace Go.Proofs.YtfiplhnplmadmaaDoor
open Go.RowKit Go.PlainAid Go.Shelf
set_option linter.unusedVariables false
theorem hd_put {C : List WSeg} {f : WSeg → WSeg} (hf : ∀ y : WSeg, y.T <+: (f y).T) {y : WSeg} (hy : C[0]? = some y) : ∃ z, (putA C f)[0]? = some z ∧ y.T <+: z.T := by
  rw [putA_get]
  by_cases h : 0 = atA C
  · rw [if_pos h, ← h, hy]; exact ⟨_, rfl, hf y⟩
  · rw [if_neg h]; exact ⟨y, hy, List.prefix_refl _⟩
/-- The log's first text is the checkpoint's. -/
def HdA (A : List WSeg) (cp : Nat) : Prop := ∃ y r, A[0]? = some y ∧ y.T = hdP cp :: r
theorem HdA.app {A : List WSeg} {cp : Nat} (h : HdA A cp) (x : ByteArray) : HdA (appA A x) cp := by
  obtain ⟨y, r, h1, h2⟩ := h
  obtain ⟨z, h3, t, h4⟩ := hd_put (f := appS x) (fun z => List.prefix_append _ _) h1
  exact ⟨z, r ++ t, h3, by rw [← h4, h2]; rfl⟩
theorem HdA.run {cp : Nat} : ∀ (xs : List ByteArray) {A : List WSeg}, HdA A cp → HdA (xs.foldl appA A) cp
  | [], A, h => h
  | x :: r, A, h => HdA.run r (h.app x)
theorem hd_new (cp : Nat) (l : List ByteArray) : HdA ((hdP cp :: l).foldl appA []) cp := by
  rw [List.foldl_cons]
  exact HdA.run l ⟨⟨[hdP cp], ⟨#[]⟩⟩, [], rfl, rfl⟩
section
variable {base : Zn} {d m p : Nat} {L : List ByteArray} {sure cp : Nat} {A : List WSeg} {w x : World}
end
end Go.Proofs.YtfiplhnplmadmaaDoor

/- Package point, pure: which of a crashed log's files begin a whole point. Conditions: none. -/
namespace Go.Proofs.YtfiplhnplmadmaaDoor
open Go.RowKit Go.PlainAid
set_option linter.unusedVariables false
def sgE (first : Int) (A : List WSeg) (k : Int) : WSeg := if first ≤ k then (A[(k - first).toNat]?).getD ⟨[], ⟨#[]⟩⟩ else ⟨[], ⟨#[]⟩⟩
theorem sgE_at (first : Int) (A : List WSeg) (i : Nat) : sgE first A (first + (i : Int)) = (A[i]?).getD ⟨[], ⟨#[]⟩⟩ := by
  unfold sgE; rw [if_pos (by omega), show (first + (i : Int) - first).toNat = i by omega]
theorem beg_no {z : WSeg} (h : ∀ x ∈ z.T, ∃ t, x = tT t) : begB z = (0, false) := by
  unfold begB
  cases hT : z.T with
  | nil => rfl
  | cons x r =>
    obtain ⟨t, rfl⟩ := h x (by rw [hT]; exact List.mem_cons_self ..)
    exact cnt_tT t
theorem hd_beg {E : List WSeg} {cp : Nat} (h : HdA E cp) (hb : cp < 1000000) : begB ((E[0]?).getD ⟨[], ⟨#[]⟩⟩) = ((cp : Int), true) := by
  obtain ⟨y, r, h1, h2⟩ := h
  rw [h1]; unfold begB; show (match y.T with | [] => (0, false) | x :: _ => cntB x) = _
  rw [h2]; exact cnt_hd cp hb
theorem others {E : List WSeg} {cp : Nat} {l : List ByteArray} (h : HdA E cp) (hT : txtA E = hdP cp :: l.map tT) (i : Nat) (hi : 0 < i) : begB ((E[i]?).getD ⟨[], ⟨#[]⟩⟩) = (0, false) := by
  apply beg_no
  cases hz : E[i]? with
  | none => intro x hx; cases hx
  | some z =>
    intro x hx
    obtain ⟨y, r, h1, h2⟩ := h
    cases E with
    | nil => cases h1
    | cons y0 E' =>
      obtain rfl : y0 = y := by simpa using h1
      have hm : z ∈ E' := by
        cases i with
        | zero => omega
        | succ i => exact List.mem_of_getElem? (by simpa using hz)
      have e1 : txtA (y0 :: E') = y0.T ++ txtA E' := rfl
      rw [e1, h2, List.cons_append] at hT
      have e2 := (List.cons.inj hT).2
      have hx2 : x ∈ l.map tT := by
        rw [← e2]; exact List.mem_append_right _ (List.mem_flatMap.2 ⟨z, hm, hx⟩)
      obtain ⟨t, -, rfl⟩ := List.mem_map.1 hx2
      exact ⟨t, rfl⟩
theorem has_seg (first : Int) (E : List WSeg) : ∀ n, n ≤ E.length → hasF (sgE first E) (segN first n) = (ownB (txtA (E.take n))).length
  | 0, _ => rfl
  | n + 1, hn => by
    have ih := has_seg first E n (by omega)
    have h1 : hasF (sgE first E) (segN first (n + 1)) = hasF (sgE first E) (segN first n) + (ownB (sgE first E (first + (n : Int))).T).length := by
      rw [segN_snoc]; unfold hasF; rw [List.foldl_append]; rfl
    have h2 : E[n]? = some E[n] := List.getElem?_eq_getElem (by omega)
    rw [h1, ih, sgE_at, h2, List.take_add_one, h2]
    unfold txtA
    rw [List.flatMap_append, own_app, List.length_append]
    simp
theorem rowN_seg {P : Int → Bool} (first : Int) (n : Nat) (hP : ∀ i : Nat, 0 < i → i < n → P (first + (i : Int)) = true) : rowF P first (segN first n) = segN first n := by
  induction n with
  | zero => rfl
  | succ n ih =>
    unfold rowF at ih ⊢
    rw [segN_snoc, List.foldl_append, ih (fun i h1 h2 => hP i h1 (by omega)), List.foldl_cons, List.foldl_nil]
    show rowS P first (segN first n) (first + (n : Int)) = _
    unfold rowS; rw [if_pos]
    refine ⟨by rw [segN_len], ?_⟩
    by_cases h0 : n = 0
    · left; subst h0; simp
    · exact .inr (hP n (by omega) (by omega))
theorem whole_first {first : Int} {E : List WSeg} {cp : Nat} {l : List ByteArray} (h : HdA E cp) (hT : txtA E = hdP cp :: l.map tT) (hc : cp ≤ l.length) (hb : cp < 1000000) : wholeF (sgE first E) first (segN first E.length) = segN first E.length := by
  have h0 : begB (sgE first E first) = ((cp : Int), true) := by
    have := sgE_at first E 0
    rw [show first + ((0 : Nat) : Int) = first by omega] at this
    rw [this]; exact hd_beg h hb
  have hr := rowN_seg (P := notB (sgE first E)) first E.length (fun i h1 _ => by unfold notB; rw [sgE_at, others h hT i h1]; rfl)
  have hh := has_seg first E E.length (Nat.le_refl _)
  rw [List.take_length, hT, own_log] at hh
  unfold wholeF
  rw [h0, if_pos rfl, hr, hh, if_neg (by show ¬ ((l.length : Nat) : Int) < (cp : Int); omega)]
theorem whole_other {first : Int} {E : List WSeg} {cp : Nat} {l : List ByteArray} (h : HdA E cp) (hT : txtA E = hdP cp :: l.map tT) (i : Nat) (hi : 0 < i) (ys : List Int) : wholeF (sgE first E) (first + (i : Int)) ys = [] := by
  unfold wholeF; rw [sgE_at, others h hT i hi]; rfl
end Go.Proofs.YtfiplhnplmadmaaDoor

/- Package point: Open of a log that a crash left. Conditions: at most 800 calls. -/
namespace Go.Proofs.YtfiplhnplmadmaaDoor
open Go.RowKit Go.PlainAid Go.Shelf
set_option linter.unusedVariables false
theorem sgE_all {s : DkS} {first : Int} {E : List WSeg} {m : Nat} (h : WSt s first E []) (hI : DkI s m) (hm : m ≤ 900) (ht : (txtA E).length ≤ m) :
    (∀ k, SegOk (sgE first E k) ∧ datF s.fm k = (sgE first E k).b ∧ (sgE first E k).b.size ≤ 1000000000) ∧ ∀ k, (sgE first E k).T.length ≤ 1000000 := by
  have h0 : SegOk ⟨[], ⟨#[]⟩⟩ := segOk_whole (fun x hx => by cases hx)
  have hb : ∀ k, (getF s.fm k).1 = (sgE first E k).b.data.toList := fun k => by
    unfold getF; rw [h.on k]; unfold flW sgE
    by_cases hl : first ≤ k
    · rw [if_pos hl, if_pos hl]
      cases hA : (([] : List ByteArray).foldl appA E)[(k - first).toNat]? with
      | none => rw [show E[(k - first).toNat]? = none from hA]; rfl
      | some y => rw [show E[(k - first).toNat]? = some y from hA]; simp only [Option.isSome_some, if_true]; show bytA E _ = _; unfold bytA; rw [show E[(k - first).toNat]? = some y from hA]; rfl
    · rw [if_neg hl, if_neg hl]; rfl
  refine ⟨fun k => ⟨?_, ?_, ?_⟩, fun k => ?_⟩
  · unfold sgE; split
    · cases hA : E[(k - first).toNat]? with
      | none => exact h0
      | some y => exact h.ok y (List.mem_of_getElem? hA)
    · exact h0
  · unfold datF; rw [hb]
  · have h1 := hI.len k
    rw [hb, list_len] at h1
    omega
  · unfold sgE; split
    · cases hA : E[(k - first).toNat]? with
      | none => show 0 ≤ _; omega
      | some y =>
        have h1 : y.T.length ≤ (txtA E).length := by
          obtain ⟨l1, l2, e⟩ := List.append_of_mem (List.mem_of_getElem? hA)
          unfold txtA
          rw [e, List.flatMap_append, List.flatMap_cons, List.length_append, List.length_append]; omega
        show y.T.length ≤ _; omega
    · show 0 ≤ _; omega
section
variable {base : Zn} {d m : Nat} {w x : World} {first : Int} {E : List WSeg} {cp : Nat} {l : List ByteArray}
end
end Go.Proofs.YtfiplhnplmadmaaDoor

/- Package point, pure: a file that was cut. Conditions: none. -/
namespace Go.Proofs.YtfiplhnplmadmaaDoor
open Go.RowKit Go.PlainAid
set_option linter.unusedVariables false
theorem cut_seg : ∀ (k : Nat) (T : List ByteArray), T.length = k → (∀ x ∈ T, x.size ≤ 65536) → ∀ n : Nat, n < (catF T).size →
    ∃ z : WSeg, SegOk z ∧ z.b.data.toList = (catF T).data.toList.take n ∧ z.T <+: T ∧ z.T.length < T.length
  | 0, T, hk, _, n, hn => by
    obtain rfl := List.eq_nil_of_length_eq_zero hk
    have : (catF ([] : List ByteArray)).size = 0 := rfl
    omega
  | k + 1, T, hk, hT, n, hn => by
    rcases List.eq_nil_or_concat T with rfl | ⟨L, x, e⟩
    · cases hk
    · obtain rfl : T = L ++ [x] := by simpa using e
      have hL : L.length = k := by rw [List.length_append] at hk; simpa using hk
      have hLT : ∀ y ∈ L, y.size ≤ 65536 := fun y hy => hT y (List.mem_append_left _ hy)
      have hx : x.size ≤ 65536 := hT x (by simp)
      have hcs : (catF (L ++ [x])).size = (catF L).size + (frameB x).size := by rw [catF_snoc, bsz_app]
      have hcl : (catF (L ++ [x])).data.toList = (catF L).data.toList ++ (frameB x).data.toList := by rw [catF_snoc, app_list]
      by_cases h : n < (catF L).size
      · obtain ⟨z, h1, h2, h3, h4⟩ := cut_seg k L hL hLT n h
        refine ⟨z, h1, ?_, List.IsPrefix.trans h3 (List.prefix_append _ _), by rw [List.length_append]; omega⟩
        rw [h2, hcl, List.take_append_of_le_length (by rw [list_len]; omega)]
      · refine ⟨⟨L, (frameB x).extract 0 (n - (catF L).size)⟩, ⟨hLT, x, hx, ?_, ?_⟩, ?_, List.prefix_append _ _, by show L.length < _; rw [List.length_append]; simp⟩
        · show ((frameB x).extract 0 _).data.toList <+: _
          rw [ext_take]; exact List.take_prefix _ _
        · show ((frameB x).extract 0 _).size < _
          rw [← list_len, ext_take, List.length_take, list_len]; omega
        · show (catF L ++ (frameB x).extract 0 _).data.toList = _
          rw [app_list, ext_take, hcl, List.take_append, List.take_of_length_le (l := (catF L).data.toList) (by rw [list_len]; omega), list_len]
end Go.Proofs.YtfiplhnplmadmaaDoor

/- Package point, pure: a log's bytes that are cut off anywhere; which of a disk's files are found then. Conditions: none. -/
namespace Go.Proofs.YtfiplhnplmadmaaDoor
open Go.RowKit Go.PlainAid
set_option linter.unusedVariables false

def psz (B : List WSeg) : Nat := (B.map fun y => y.b.size).sum
theorem psz_cons (y : WSeg) (r : List WSeg) : psz (y :: r) = y.b.size + psz r := by unfold psz; simp
theorem psz_app (A B : List WSeg) : psz (A ++ B) = psz A + psz B := by unfold psz; simp
/-- A segment that Save wrote: whole texts, at least one. -/
def GdS (y : WSeg) : Prop := SegOk y ∧ y.q = ⟨#[]⟩ ∧ y.T ≠ []
theorem GdS.b {y : WSeg} (h : GdS y) : y.b = catF y.T := by unfold WSeg.b; rw [h.2.1]; exact bapp_nil _
theorem catF_pos {T : List ByteArray} (h : T ≠ []) : 0 < (catF T).size := by
  rcases List.eq_nil_or_concat T with rfl | ⟨L, x, e⟩
  · exact absurd rfl h
  · obtain rfl : T = L ++ [x] := by simpa using e
    have := frameB_pos x
    rw [catF_snoc, bsz_app]; omega
theorem GdS.pos {y : WSeg} (h : GdS y) : 0 < y.b.size := by rw [h.b]; exact catF_pos h.2.2
/-- z is y, cut off behind n bytes. -/
def CutR (y z : WSeg) (n : Nat) : Prop := SegOk z ∧ z.b = y.b.extract 0 n ∧ z.T <+: y.T ∧ z.T.length < y.T.length
theorem cutR_some {y : WSeg} (h : GdS y) {n : Nat} (hn : n < y.b.size) : ∃ z, CutR y z n := by
  rw [h.b] at hn
  obtain ⟨z, h1, h2, h3, h4⟩ := cut_seg _ y.T rfl h.1.1 n hn
  refine ⟨z, h1, ?_, h3, h4⟩
  apply bytes_eq
  rw [h2, h.b, ext_take]
open Classical in
noncomputable def cutS (y : WSeg) (n : Nat) : WSeg := if h : ∃ z, CutR y z n then h.choose else y
theorem cutS_is {y : WSeg} (h : GdS y) {n : Nat} (hn : n < y.b.size) : CutR y (cutS y n) n := by
  have hx := cutR_some h hn
  unfold cutS; rw [dif_pos hx]; exact hx.choose_spec
noncomputable def cutA : List WSeg → Nat → List WSeg
  | [], _ => []
  | y :: r, n => if n = 0 then [] else if y.b.size ≤ n then y :: cutA r (n - y.b.size) else [cutS y n]
theorem cutA_0 (B : List WSeg) : cutA B 0 = [] := by cases B <;> simp [cutA]
theorem ext_all (b : ByteArray) (n : Nat) (h : b.size ≤ n) : b.extract 0 n = b := by
  apply bytes_eq; rw [ext_take]; exact List.take_of_length_le (by rw [list_len]; exact h)
/-- What round i finds, with so many bytes left. -/
theorem cut_rd : ∀ (B : List WSeg) (n i : Nat) (y : WSeg), (∀ z ∈ B, GdS z) → B[i]? = some y →
    (0 < n - psz (B.take i) → ∃ z, (cutA B n)[i]? = some z ∧ z.b = y.b.extract 0 (min (n - psz (B.take i)) y.b.size) ∧ (cutA B n).length ≥ i + 1) ∧ (n - psz (B.take i) = 0 → (cutA B n).length ≤ i)
  | [], n, i, y, _, hy => by simp at hy
  | x :: r, n, 0, y, hG, hy => by
    have hxy : x = y := by simpa using hy
    subst hxy
    have hx := hG x (List.mem_cons_self ..)
    have e0 : psz ((x :: r).take 0) = 0 := rfl
    rw [e0, Nat.sub_zero]
    constructor
    · intro hn
      unfold cutA
      rw [if_neg (by omega)]
      by_cases h : x.b.size ≤ n
      · rw [if_pos h]
        refine ⟨x, rfl, ?_, by simp⟩
        rw [Nat.min_eq_right h, ext_all _ _ (Nat.le_refl _)]
      · rw [if_neg h]
        have hc := cutS_is hx (n := n) (by omega)
        refine ⟨_, rfl, ?_, by simp⟩
        rw [hc.2.1, Nat.min_eq_left (by omega)]
    · intro hn
      rw [hn, cutA_0]; simp
  | x :: r, n, i + 1, y, hG, hy => by
    have hx := hG x (List.mem_cons_self ..)
    have hxp := hx.pos
    have ih := cut_rd r (n - x.b.size) i y (fun z hz => hG z (List.mem_cons_of_mem _ hz)) (by simpa using hy)
    have e1 : psz ((x :: r).take (i + 1)) = x.b.size + psz (r.take i) := by rw [List.take_succ_cons, psz_cons]
    rw [e1, ← Nat.sub_sub]
    by_cases h0 : n = 0
    · subst h0
      rw [cutA_0]
      simp
    by_cases h : x.b.size ≤ n
    · have e : cutA (x :: r) n = x :: cutA r (n - x.b.size) := by
        conv => lhs; unfold cutA
        rw [if_neg h0, if_pos h]
      rw [e]
      refine ⟨fun hp => ?_, fun hp => ?_⟩
      · obtain ⟨z, z1, z2, z3⟩ := ih.1 hp
        exact ⟨z, by simpa using z1, z2, by simp; omega⟩
      · have := ih.2 hp; simp; omega
    · have e : cutA (x :: r) n = [cutS x n] := by
        conv => lhs; unfold cutA
        rw [if_neg h0, if_neg h]
      rw [e]
      have : n - x.b.size = 0 := by omega
      rw [this]
      refine ⟨fun hp => by omega, fun _ => by simp⟩
theorem cut_ok : ∀ (B : List WSeg) (n : Nat), (∀ z ∈ B, GdS z) → OkA (cutA B n)
  | [], n, _ => fun y hy => by simp [cutA] at hy
  | x :: r, n, hG => by
    have hx := hG x (List.mem_cons_self ..)
    have ih := cut_ok r (n - x.b.size) (fun z hz => hG z (List.mem_cons_of_mem _ hz))
    unfold cutA
    split
    · intro y hy; cases hy
    · split
      · intro y hy
        rcases List.mem_cons.1 hy with rfl | hy
        · exact hx.1
        · exact ih y hy
      · rename_i h
        intro y hy
        simp only [List.mem_singleton] at hy
        subst hy; exact (cutS_is hx (by omega)).1
theorem cut_all : ∀ (B : List WSeg) (n : Nat), (∀ z ∈ B, GdS z) → psz B ≤ n → cutA B n = B
  | [], n, _, _ => by simp [cutA]
  | x :: r, n, hG, hn => by
    have hx := (hG x (List.mem_cons_self ..)).pos
    rw [psz_cons] at hn
    unfold cutA
    rw [if_neg (by omega), if_pos (by omega), cut_all r _ (fun z hz => hG z (List.mem_cons_of_mem _ hz)) (by omega)]
/-- What is cut off before its end has fewer texts, a beginning of all. -/
theorem cut_less : ∀ (B : List WSeg) (n : Nat), (∀ z ∈ B, GdS z) → n < psz B → txtA (cutA B n) <+: txtA B ∧ (txtA (cutA B n)).length < (txtA B).length
  | [], n, _, hn => by simp [psz] at hn
  | x :: r, n, hG, hn => by
    have hx := hG x (List.mem_cons_self ..)
    rw [psz_cons] at hn
    have e1 : txtA (x :: r) = x.T ++ txtA r := rfl
    have hxT : 0 < x.T.length := List.length_pos_iff.2 hx.2.2
    unfold cutA
    split
    · rw [e1]; refine ⟨List.nil_prefix, ?_⟩; show 0 < _; rw [List.length_append]; omega
    · split
      · rename_i h0 h
        obtain ⟨i1, i2⟩ := cut_less r (n - x.b.size) (fun z hz => hG z (List.mem_cons_of_mem _ hz)) (by omega)
        have e2 : txtA (x :: cutA r (n - x.b.size)) = x.T ++ txtA (cutA r (n - x.b.size)) := rfl
        rw [e1, e2]
        exact ⟨(List.prefix_append_right_inj _).2 i1, by rw [List.length_append, List.length_append]; omega⟩
      · rename_i h0 h
        have hc := cutS_is hx (n := n) (by omega)
        have e2 : txtA [cutS x n] = (cutS x n).T := by unfold txtA; simp
        rw [e1, e2]
        exact ⟨hc.2.2.1.trans (List.prefix_append _ _), by rw [List.length_append]; have := hc.2.2.2; omega⟩
/-- Its first file tells of the first text, or there is just that file. -/
theorem cut_head : ∀ (B : List WSeg) (n : Nat) (y : WSeg) (r : List WSeg), B = y :: r → (∀ z ∈ B, GdS z) → cutA B n = [] ∨ (∃ z, cutA B n = [z] ∧ z.T = []) ∨ ∃ z r', cutA B n = z :: r' ∧ z.T ≠ [] ∧ z.T <+: y.T := by
  intro B n y r e hG
  subst e
  have hy := hG y (List.mem_cons_self ..)
  unfold cutA
  split
  · exact .inl rfl
  · split
    · exact .inr (.inr ⟨y, _, rfl, hy.2.2, List.prefix_refl _⟩)
    · rename_i h0 h
      have hc := cutS_is hy (n := n) (by omega)
      by_cases hT : (cutS y n).T = []
      · exact .inr (.inl ⟨_, rfl, hT⟩)
      · exact .inr (.inr ⟨_, [], rfl, hT, hc.2.2.1⟩)
theorem cut_len : ∀ (B : List WSeg) (n : Nat), (cutA B n).length ≤ B.length
  | [], n => by simp [cutA]
  | x :: r, n => by
    unfold cutA
    have := cut_len r (n - x.b.size)
    split
    · simp
    · split <;> simp <;> omega
end Go.Proofs.YtfiplhnplmadmaaDoor

/- Package point, pure: which log of a disk's files is found, with another behind it that is whole or cut off. Conditions: none. -/
namespace Go.Proofs.YtfiplhnplmadmaaDoor
open Go.RowKit Go.PlainAid
set_option linter.unusedVariables false

theorem segN_add (first : Int) (a b : Nat) : segN first (a + b) = segN first a ++ segN (first + (a : Int)) b := by
  induction b with
  | zero => simp [segN]
  | succ b ih => rw [← Nat.add_assoc, segN_snoc, ih, segN_snoc, List.append_assoc]; congr 3; omega
theorem rowF_none (P : Int → Bool) (next : Int) : ∀ (ys : List Int), (∀ k ∈ ys, k < next) → ys.foldl (rowS P next) [] = []
  | [], _ => rfl
  | y :: r, h => by
    have hy := h y (List.mem_cons_self ..)
    have e : rowS P next [] y = [] := by unfold rowS; rw [if_neg]; rintro ⟨h1, -⟩; simp at h1; omega
    rw [List.foldl_cons, e]
    exact rowF_none P next r (fun k hk => h k (List.mem_cons_of_mem _ hk))
theorem rowF_skip (P : Int → Bool) (next : Int) (ys zs : List Int) (h : ∀ k ∈ ys, k < next) : rowF P next (ys ++ zs) = rowF P next zs := by
  unfold rowF; rw [List.foldl_append, rowF_none P next ys h]
theorem wholeF_skip (sg : Int → WSeg) (next : Int) (ys zs : List Int) (h : ∀ k ∈ ys, k < next) : wholeF sg next (ys ++ zs) = wholeF sg next zs := by
  unfold wholeF; rw [rowF_skip _ _ _ _ h]
theorem rowS_congr {P Q : Int → Bool} {first : Int} : ∀ (ys l : List Int), (∀ k ∈ ys, P k = Q k) → ys.foldl (rowS P first) l = ys.foldl (rowS Q first) l
  | [], l, _ => rfl
  | y :: r, l, h => by
    have e : rowS P first l y = rowS Q first l y := by unfold rowS; rw [h y (List.mem_cons_self ..)]
    rw [List.foldl_cons, List.foldl_cons, e]
    exact rowS_congr r _ (fun k hk => h k (List.mem_cons_of_mem _ hk))
theorem rowS_sub {P : Int → Bool} {first : Int} : ∀ (ys l : List Int) (k : Int), k ∈ ys.foldl (rowS P first) l → k ∈ l ∨ k ∈ ys
  | [], l, k, h => .inl h
  | y :: r, l, k, h => by
    rw [List.foldl_cons] at h
    rcases rowS_sub r _ k h with h1 | h1
    · unfold rowS at h1
      split at h1
      · rcases List.mem_append.1 h1 with h2 | h2
        · exact .inl h2
        · simp only [List.mem_singleton] at h2; subst h2; exact .inr (List.mem_cons_self ..)
      · exact .inl h1
    · exact .inr (List.mem_cons_of_mem _ h1)
theorem hasF_congr {sg sg' : Int → WSeg} : ∀ (l : List Int) (n : Nat), (∀ k ∈ l, sg k = sg' k) → l.foldl (fun n k => n + (ownB (sg k).T).length) n = l.foldl (fun n k => n + (ownB (sg' k).T).length) n
  | [], n, _ => rfl
  | y :: r, n, h => by
    rw [List.foldl_cons, List.foldl_cons, h y (List.mem_cons_self ..)]
    exact hasF_congr r _ (fun k hk => h k (List.mem_cons_of_mem _ hk))
theorem wholeF_congr {sg sg' : Int → WSeg} {first : Int} {ys : List Int} (h0 : sg first = sg' first) (h : ∀ k ∈ ys, sg k = sg' k) : wholeF sg first ys = wholeF sg' first ys := by
  have e1 : rowF (notB sg) first ys = rowF (notB sg') first ys := rowS_congr ys [] (fun k hk => by unfold notB; rw [h k hk])
  have e2 : hasF sg (rowF (notB sg') first ys) = hasF sg' (rowF (notB sg') first ys) := hasF_congr _ 0 (fun k hk => by
    rcases rowS_sub ys [] k hk with h1 | h1
    · cases h1
    · exact h k h1)
  unfold wholeF; rw [h0, e1, e2]
theorem sgE_lo {first : Int} {A B : List WSeg} {i : Nat} (hi : i < A.length) : sgE first (A ++ B) (first + (i : Int)) = sgE first A (first + (i : Int)) := by
  rw [sgE_at, sgE_at, List.getElem?_append_left hi]
theorem sgE_hi {first : Int} {A B : List WSeg} {k : Int} (hk : first + (A.length : Int) ≤ k) : sgE first (A ++ B) k = sgE (first + (A.length : Int)) B k := by
  unfold sgE
  rw [if_pos (by omega), if_pos hk, List.getElem?_append_right (by omega)]
  congr 2; omega
/-- Which of a disk's files are found. -/
structure OpenR (first : Int) (G : List WSeg) (k0 k1 : Nat) : Prop where
  at0 : wholeF (sgE first G) (first + (k0 : Int)) (segN first G.length) = segN (first + (k0 : Int)) (k1 - k0)
  lt : k0 < k1
  le : k1 ≤ G.length
  oth : ∀ i : Nat, k0 < i → i < G.length → wholeF (sgE first G) (first + (i : Int)) (segN first G.length) = []
theorem begF_no {sg : Int → WSeg} {first : Int} {ys : List Int} (h : begB (sg first) = (0, false)) : wholeF sg first ys = [] := by unfold wholeF; rw [h]; rfl
theorem open_one {first : Int} {E : List WSeg} {cp : Nat} {l : List ByteArray} (h : HdA E cp) (hT : txtA E = hdP cp :: l.map tT) (hc : cp ≤ l.length) (hb : cp < 1000000) : OpenR first E 0 E.length := by
  have h0 : 0 < E.length := by obtain ⟨y, r, h1, -⟩ := h; have := (List.getElem?_eq_some_iff.1 h1).1; omega
  refine ⟨?_, h0, Nat.le_refl _, fun i hi _ => whole_other h hT i hi _⟩
  have := whole_first (first := first) h hT hc hb
  simpa using this
/-- Another log that is whole lies behind it: that is found. -/
theorem open_new {first : Int} {A B : List WSeg} {cp : Nat} {l : List ByteArray} (h : HdA B cp) (hT : txtA B = hdP cp :: l.map tT) (hc : cp ≤ l.length) (hb : cp < 1000000) : OpenR first (A ++ B) A.length (A ++ B).length := by
  obtain ⟨q1, q2, q3, q4⟩ := open_one (first := first + (A.length : Int)) h hT hc hb
  have hk : ∀ k ∈ segN first A.length, k < first + (A.length : Int) := fun k hk => (segN_mem.1 hk).2
  have tr : ∀ i : Nat, wholeF (sgE first (A ++ B)) (first + (A.length : Int) + (i : Int)) (segN first (A ++ B).length) = wholeF (sgE (first + (A.length : Int)) B) (first + (A.length : Int) + (i : Int)) (segN (first + (A.length : Int)) B.length) := fun i => by
    rw [List.length_append, segN_add, wholeF_skip _ _ _ _ (fun k h => by have := hk k h; omega)]
    exact wholeF_congr (sgE_hi (by omega)) (fun k hk => sgE_hi (segN_mem.1 hk).1)
  refine ⟨?_, by rw [List.length_append]; omega, Nat.le_refl _, fun i h1 h2 => ?_⟩
  · have e := tr 0
    have e0 : (first + (A.length : Int)) + ((0 : Nat) : Int) = first + (A.length : Int) := by omega
    rw [e0] at e q1
    rw [e, q1, List.length_append]
    congr 1; omega
  · have e := tr (i - A.length)
    have e0 : (first + (A.length : Int)) + ((i - A.length : Nat) : Int) = first + (i : Int) := by omega
    rw [e0] at e
    rw [e, ← e0]
    rw [List.length_append] at h2
    exact q4 (i - A.length) (by omega) (by omega)
/-- Another log that is not whole lies behind it: it is found itself. -/
theorem open_old {first : Int} {A Z : List WSeg} {cp cz : Nat} {l lz : List ByteArray} (h : HdA A cp) (hT : txtA A = hdP cp :: l.map tT) (hc : cp ≤ l.length) (hb : cp < 1000000) (hz : HdA Z cz) (hTz : txtA Z = hdP cz :: lz.map tT) (hcz : lz.length < cz) (hbz : cz < 1000000) : OpenR first (A ++ Z) 0 A.length := by
  obtain ⟨q1, q2, q3, q4⟩ := open_one (first := first) h hT hc hb
  have hk : ∀ k ∈ segN first A.length, k < first + (A.length : Int) := fun k hk => (segN_mem.1 hk).2
  have hz0 : 0 < Z.length := by obtain ⟨y, r, h1, -⟩ := hz; have := (List.getElem?_eq_some_iff.1 h1).1; omega
  have hbeg0 : begB (sgE first (A ++ Z) (first + (A.length : Int))) = ((cz : Int), true) := by
    rw [sgE_hi (Int.le_refl _)]
    have := sgE_at (first + (A.length : Int)) Z 0
    rw [show first + (A.length : Int) + ((0 : Nat) : Int) = first + (A.length : Int) by omega] at this
    rw [this]; exact hd_beg hz hbz
  refine ⟨?_, q2, by rw [List.length_append]; omega, fun i h1 h2 => ?_⟩
  · have e0 : first + ((0 : Nat) : Int) = first := by omega
    rw [e0]
    rw [e0] at q1
    have hrow : rowF (notB (sgE first (A ++ Z))) first (segN first (A ++ Z).length) = rowF (notB (sgE first A)) first (segN first A.length) := by
      have hA : (segN first A.length).foldl (rowS (notB (sgE first (A ++ Z))) first) [] = rowF (notB (sgE first A)) first (segN first A.length) := rowS_congr _ _ (fun k hk => by
        obtain ⟨k1, k2⟩ := segN_mem.1 hk
        have e : k = first + ((k - first).toNat : Int) := by omega
        unfold notB; rw [e, sgE_lo (by omega)])
      have hN : rowF (notB (sgE first A)) first (segN first A.length) = segN first A.length := rowN_seg first A.length (fun i h1 _ => by unfold notB; rw [sgE_at, others h hT i h1]; rfl)
      unfold rowF at hA hN ⊢
      rw [List.length_append, segN_add, List.foldl_append, hA, hN]
      have stop : ∀ (ys : List Int), (∀ k ∈ ys, first + (A.length : Int) ≤ k) → ys.foldl (rowS (notB (sgE first (A ++ Z))) first) (segN first A.length) = segN first A.length := by
        intro ys
        induction ys with
        | nil => intro _; rfl
        | cons y r ih =>
          intro hys
          have hy := hys y (List.mem_cons_self ..)
          have e : rowS (notB (sgE first (A ++ Z))) first (segN first A.length) y = segN first A.length := by
            unfold rowS; rw [if_neg]
            rintro ⟨h1, h2⟩
            rw [segN_len] at h1
            rcases h2 with h2 | h2
            · omega
            · rw [h1] at h2; unfold notB at h2; rw [hbeg0] at h2; cases h2
          rw [List.foldl_cons, e]
          exact ih (fun k hk => hys k (List.mem_cons_of_mem _ hk))
      exact stop _ (fun k hk => (segN_mem.1 hk).1)
    have e1 : sgE first (A ++ Z) first = sgE first A first := by
      have := sgE_lo (first := first) (A := A) (B := Z) (i := 0) q2
      rw [e0] at this; exact this
    have e2 : hasF (sgE first (A ++ Z)) (rowF (notB (sgE first A)) first (segN first A.length)) = hasF (sgE first A) (rowF (notB (sgE first A)) first (segN first A.length)) := hasF_congr _ 0 (fun k hk => by
      rcases rowS_sub _ _ k hk with h1 | h1
      · cases h1
      · obtain ⟨k1, k2⟩ := segN_mem.1 h1
        have e : k = first + ((k - first).toNat : Int) := by omega
        rw [e, sgE_lo (by omega)])
    rw [← q1]
    unfold wholeF
    rw [hrow, e1, e2]
  · by_cases hi : i < A.length
    · exact begF_no (by rw [sgE_lo hi, sgE_at]; exact others h hT i h1)
    · by_cases he : i = A.length
      · subst he
        have hr := rowN_seg (P := notB (sgE (first + (A.length : Int)) Z)) (first + (A.length : Int)) Z.length (fun i h1 _ => by unfold notB; rw [sgE_at, others hz hTz i h1]; rfl)
        have hh := has_seg (first + (A.length : Int)) Z Z.length (Nat.le_refl _)
        rw [List.take_length, hTz, own_log] at hh
        rw [List.length_append, segN_add, wholeF_skip _ _ _ _ hk, wholeF_congr (sgE_hi (Int.le_refl _)) (fun k hk => sgE_hi (segN_mem.1 hk).1)]
        have hb0 : begB (sgE (first + (A.length : Int)) Z (first + (A.length : Int))) = ((cz : Int), true) := by rw [← sgE_hi (A := A) (Int.le_refl _)]; exact hbeg0
        unfold wholeF
        rw [hb0, if_pos rfl, hr, hh, if_pos (by show ((lz.length : Nat) : Int) < (cz : Int); omega)]
      · refine begF_no ?_
        rw [sgE_hi (by omega), show first + (i : Int) = first + (A.length : Int) + ((i - A.length : Nat) : Int) by omega, sgE_at]
        exact others hz hTz _ (by omega)
/-- A log, and the beginning of another behind it: the log is found. -/
theorem open_cut {first : Int} {A B : List WSeg} {cp n : Nat} {l m : List ByteArray} (h : HdA A cp) (hT : txtA A = hdP cp :: l.map tT) (hc : cp ≤ l.length) (hb : cp < 1000000) (hG : ∀ z ∈ B, GdS z) (hB : HdA B m.length) (hTB : txtA B = hdP m.length :: m.map tT) (hbz : m.length < 1000000) (hn : n < psz B) :
    ∃ k1, OpenR first (A ++ cutA B n) 0 k1 ∧ HdA ((A ++ cutA B n).take k1) cp ∧ txtA ((A ++ cutA B n).take k1) = hdP cp :: l.map tT := by
  obtain ⟨y, r, hy, hyT⟩ := hB
  obtain ⟨rb, hrb⟩ : ∃ rb, B = y :: rb := by
    cases B with
    | nil => cases hy
    | cons y0 rb => exact ⟨rb, by have : y0 = y := by simpa using hy
                                  rw [this]⟩
  obtain ⟨hp, hl⟩ := cut_less B n hG hn
  have hHd : ∀ Z : List WSeg, HdA (A ++ Z) cp := fun Z => by
    obtain ⟨ya, ra, a1, a2⟩ := h
    exact ⟨ya, ra, by rw [List.getElem?_append_left (List.getElem?_eq_some_iff.1 a1).1]; exact a1, a2⟩
  have self : ∀ Z : List WSeg, txtA Z = [] → ∃ k1, OpenR first (A ++ Z) 0 k1 ∧ HdA ((A ++ Z).take k1) cp ∧ txtA ((A ++ Z).take k1) = hdP cp :: l.map tT := fun Z hZ => by
    have hTZ : txtA (A ++ Z) = hdP cp :: l.map tT := by
      have : txtA (A ++ Z) = txtA A ++ txtA Z := List.flatMap_append ..
      rw [this, hZ, List.append_nil, hT]
    refine ⟨(A ++ Z).length, open_one (hHd Z) hTZ hc hb, ?_, ?_⟩
    · rw [List.take_length]; exact hHd Z
    · rw [List.take_length]; exact hTZ
  rcases cut_head B n y rb hrb hG with h0 | ⟨z, h0, hz⟩ | ⟨z, r', h0, hz, hzp⟩
  · rw [h0]; exact self [] rfl
  · rw [h0]; exact self [z] (by unfold txtA; simp [hz])
  · have hz2 : ∃ rz, z.T = hdP m.length :: rz := by
      obtain ⟨t, ht⟩ := hzp
      cases hzT : z.T with
      | nil => exact absurd hzT hz
      | cons a b =>
        rw [hzT, hyT] at ht
        exact ⟨b, by rw [(List.cons.inj ht).1]⟩
    obtain ⟨rz, hrz⟩ := hz2
    have hHz : HdA (cutA B n) m.length := ⟨z, rz, by rw [h0]; rfl, hrz⟩
    have htx : ∃ j, j < m.length ∧ txtA (cutA B n) = hdP m.length :: (m.take j).map tT := by
      rw [hTB] at hp hl
      have e : txtA (cutA B n) = (hdP m.length :: m.map tT).take (txtA (cutA B n)).length := List.prefix_iff_eq_take.1 hp
      have hpos : 0 < (txtA (cutA B n)).length := by
        have e2 : txtA (cutA B n) = z.T ++ txtA r' := by rw [h0]; rfl
        rw [e2, hrz]; simp
      rw [List.length_cons, List.length_map] at hl
      refine ⟨(txtA (cutA B n)).length - 1, by omega, ?_⟩
      obtain ⟨k, hk⟩ : ∃ k, (txtA (cutA B n)).length = k + 1 := ⟨_, (Nat.succ_pred_eq_of_pos hpos).symm⟩
      rw [hk] at e ⊢
      rw [e, List.take_succ_cons, List.map_take]; rfl
    obtain ⟨j, hj, htx⟩ := htx
    refine ⟨A.length, open_old h hT hc hb hHz htx (by rw [List.length_take]; omega) hbz, ?_, ?_⟩
    · rw [List.take_left]; exact h
    · rw [List.take_left]; exact hT
end Go.Proofs.YtfiplhnplmadmaaDoor

/- Package point: New, Save on a point. Conditions: at most 500 calls. -/
namespace Go.Proofs.YtfiplhnplmadmaaDoor
open Go.RowKit Go.PlainAid Go.Shelf
set_option linter.unusedVariables false
section
variable {base : Zn} {d m p : Nat} {L : List ByteArray} {sure cp : Nat} {A : List WSeg} {w x : World}
theorem WSG.drop {s : DkS} {first : Int} {A : List WSeg} {old : Int → Option FileM} (h : WSG s first A [] old []) : WSt (dropF (fun k => decide (first ≤ k)) s) first A [] :=
  ⟨fun k => by
    show (if decide (first ≤ k) = true then s.fm k else none) = _
    by_cases hl : first ≤ k
    · rw [if_pos (decide_eq_true hl), h.on k, if_pos hl]
    · rw [if_neg (by rw [decide_eq_false hl]; decide)]; unfold flW; rw [if_neg hl], h.ps, h.ok, h.tx⟩
theorem DkI.drop {s : DkS} (h : DkI s m) (hp : s.ps = []) (Q : Int → Bool) : DkI (dropF Q s) m := by
  have hg : ∀ k, getF (dropF Q s).fm k = if Q k = true then getF s.fm k else mz := fun k => by
    unfold getF dropF
    by_cases hq : Q k = true
    · simp only [hq, if_true]
    · simp [hq]
  refine ⟨fun k => ?_, fun q hq => ?_, fun k => ?_, fun k => ?_, h.tot, h.pl, fun k hk => ?_⟩
  · rw [hg]; split
    · exact h.len k
    · show ((0 : Nat) : Int) ≤ _; omega
  · have : q ∈ s.ps := hq
    rw [hp] at this; cases this
  · have h1 := h.sum k
    show _ + sumK s.ps k = _
    rw [hp] at h1 ⊢
    rw [hg]; split
    · exact h1
    · rfl
  · rw [hg]; split
    · exact h.saf k
    · exact Int.le_refl 0
  · have hq : Q k = true ∧ (s.fm k).isSome = true := by
      have hk2 : (if Q k = true then s.fm k else none).isSome = true := hk
      by_cases hq : Q k = true
      · rw [if_pos hq] at hk2; exact ⟨hq, hk2⟩
      · rw [if_neg hq] at hk2; cases hk2
    rcases h.cov k hq.2 with h1 | ⟨q, h1, h2⟩
    · left; rw [hg, if_pos hq.1]; exact h1
    · rw [hp] at h1; cases h1
def sgA (first : Int) (A : List WSeg) (k : Int) : WSeg := if first ≤ k then (A[(k - first).toNat]?).getD ⟨[], ⟨#[]⟩⟩ else ⟨[], ⟨#[]⟩⟩
theorem sgA_ok {first : Int} {A : List WSeg} (h : OkA A) (k : Int) : SegOk (sgA first A k) := by
  have h0 : SegOk ⟨[], ⟨#[]⟩⟩ := segOk_whole (fun x hx => by cases hx)
  unfold sgA; split
  · cases hA : A[(k - first).toNat]? with
    | none => exact h0
    | some y => exact h y (List.mem_of_getElem? hA)
  · exact h0
theorem txt_mem {A : List WSeg} {y : WSeg} (h : y ∈ A) : y.T.length ≤ (txtA A).length := by
  obtain ⟨l1, l2, rfl⟩ := List.append_of_mem h
  unfold txtA
  rw [List.flatMap_append, List.flatMap_cons, List.length_append, List.length_append]; omega
theorem WSt.sgs {s : DkS} {first : Int} {A : List WSeg} {xs : List ByteArray} (h : WSt s first A xs) (hI : DkI s m) (hm : m ≤ 900) (ht : (txtA A).length + xs.length ≤ m) :
    (∀ k, SegOk (sgA first (xs.foldl appA A) k) ∧ datF s.fm k = (sgA first (xs.foldl appA A) k).b ∧ (sgA first (xs.foldl appA A) k).b.size ≤ 1000000000) ∧ ∀ k, (sgA first (xs.foldl appA A) k).T.length ≤ 1000000 := by
  have hb : ∀ k, (getF s.fm k).1 = (sgA first (xs.foldl appA A) k).b.data.toList := fun k => by
    unfold getF; rw [h.on k]; unfold flW sgA
    by_cases hl : first ≤ k
    · rw [if_pos hl, if_pos hl]
      cases hA : (xs.foldl appA A)[(k - first).toNat]? with
      | none => rfl
      | some y => simp [bytA, hA]
    · rw [if_neg hl, if_neg hl]; rfl
  refine ⟨fun k => ⟨sgA_ok (h.ok.run h.tx) k, ?_, ?_⟩, fun k => ?_⟩
  · unfold datF; rw [hb]
  · have h1 := hI.len k
    rw [hb, list_len] at h1
    omega
  · unfold sgA; split
    · cases hA : (xs.foldl appA A)[(k - first).toNat]? with
      | none => show 0 ≤ _; omega
      | some y =>
        have h1 := txt_mem (List.mem_of_getElem? hA)
        rw [txt_run, List.length_append] at h1
        show y.T.length ≤ _; omega
    · show 0 ≤ _; omega
theorem WlO.bg {s : DkS} {first : Int} {A : List WSeg} {xs : List ByteArray} (hX : WlX base w d m first A xs s) (hm : m ≤ 700) (hf : first ≤ 900000000) (ht : Tab w) (hb : ¬ base.P 0) : BgO base d (xs.foldl appA A).length m (first + ((xs.foldl appA A).length : Int)) s [] s.fm s.ps w := by
  obtain ⟨h1, h2, h3, h4, h5, h6, h7, h8, h9⟩ := hX
  have hl := run_len xs A
  exact ⟨h1, h2.next, h3, ht, hb, by omega, by omega, by omega, Nat.zero_le _⟩
/-- What begin leaves, as a log. -/
theorem wl_of {s : DkS} {next : Int} {c' n : Nat} {l : List ByteArray} (hW : WSt s next ((hdP n :: l.map tT).foldl appA []) []) (hO : DObj base w d c' s) (hI : DkI s (m + l.length + 1)) (hb0 : 0 ≤ s.boots) (hb1 : s.boots ≤ (m : Int) + 1) (h1 : 1 ≤ next) (h2 : next ≤ 1000000000) : WlO base w d (m + l.length + 1) next ((hdP n :: l.map tT).foldl appA []) [] := by
  have hk := hO.tight (hW.on.keys)
  rw [segN_len] at hk
  have hl := run_len (hdP n :: l.map tT) []
  rw [List.length_cons, List.length_map, List.length_nil] at hl
  have ht := txt_run (hdP n :: l.map tT) []
  refine ⟨s, hk, hW, hI, hb0, by omega, (by first | omega | (simp only [List.length_nil]; omega)), ?_, h1, h2⟩
  rw [ht]; simp [txtA] <;> omega
set_option maxRecDepth 100000 in
set_option maxHeartbeats 4000000 in
theorem ptNew (w : World) (h : WlO base w d 0 1 [] []) (ht : Tab w) (hb : ¬ base.P 0) : Calls Tryd.prog 20 #[pt d 0] w fun e w' => ∃ p : Nat, e = .returned (.tuple #[pt p 0, .int .i64 0]) ∧ PtO base w' d 1 p [] 0 0 ([hdP 0].foldl appA []) ∧ ButD base w w' := by
  obtain ⟨s, hX⟩ := h
  have hX : WlX base w d 0 1 [] [] s := hX
  have HX := Lib.hid hX; have HT := Lib.hid ht
  have hn : ∀ k, s.fm k = none := fun k => by rw [hX.2.1.on k]; unfold flW; simp
  have hps : s.ps = [] := hX.2.1.ps
  have HN := Lib.hid hn; have HPS := Lib.hid hps
  clear hX ht hn hps
  go_enter Tryd.func20, Tryd.ntmps20
  simp only [pt]
  go_wp2_with fail
  refine (tFiles w HX.out.1 (by decide)).mono ?_
  rintro e w1 ⟨ys, u, rfl, hr1, hK1, -, hD1, hb1⟩
  have hy : ys = [] := List.eq_nil_iff_forall_not_mem.2 (fun k hk => by have h9 := (hK1.2 k).1 hk; rw [HN.out k] at h9; cases h9)
  subst hy
  obtain ⟨ua, uc, rfl, -, -⟩ := row_view hr1
  have HD1 := Lib.hid hD1; have HB1 := Lib.hid hb1
  clear hr1 hK1 hD1 hb1
  go_wp2_with fail
  have hB : BgO base d 0 0 1 s [] s.fm s.ps w1 := (WlO.bg (m := 0) (first := 1) (A := []) (xs := []) (show WlX base w1 d 0 1 [] [] s from ⟨HD1.out, HX.out.2⟩) (by decide) (by decide) (tab_butD HT.out HB1.out hb) hb)
  refine (begin_any (.slice none 0 0) [] w1 hB (fun X _ => ⟨none, 0, rfl, Nat.le_refl _, by decide, fun _ => ⟨rfl, rfl⟩, fun j hj => absurd hj (by simp)⟩) (by decide) (fun z hz => by cases hz)).mono ?_
  rintro e w2 ⟨N, c', s', old', rfl, ⟨hW2, hPN⟩, hG2, hD2, hc2, hI2, hbo2, hb2, hol2⟩
  have hold := hol2 HPS.out (fun k _ => HN.out k)
  have hbo := HX.out.2.2.2
  have hw2 := wl_of (m := 0) (hG2.toW hold) hD2 hI2 (by rw [hbo2]; exact hbo.1) (by rw [hbo2]; have := hbo.2.1; omega) (by decide) (by decide)
  have hq2 : txtA ((hdP ([] : List ByteArray).length :: ([] : List ByteArray).map tT).foldl appA []) = [hdP 0] := by rw [txt_run]; rfl
  have HQ2 := Lib.hid hq2
  have HW2 := Lib.hid hW2; have HO2 := Lib.hid hw2; have HB2 := Lib.hid (butD_tr HB1.out hb2)
  clear hW2 hG2 hD2 hc2 hI2 hbo2 hb2 hol2 hold hbo hw2 hq2 hB
  simp only [pt]
  go_wp2
  have hg1 := World.grownBy_alloc w2 (.cells #[.pointer (some ⟨d, 0, none⟩), .int .i64 1, .pointer (some ⟨N, 0, none⟩)] 59) none
  have hg2 := World.grownBy_alloc (w2.alloc (.cells #[.pointer (some ⟨d, 0, none⟩), .int .i64 1, .pointer (some ⟨N, 0, none⟩)] 59)) (.cells #[.bool true, .pointer (some ⟨d, 0, none⟩), .int .i64 1, .pointer (some ⟨N, 0, none⟩)] 61) none
  have hP := World.alloc_heap_new (w2.alloc (.cells #[.pointer (some ⟨d, 0, none⟩), .int .i64 1, .pointer (some ⟨N, 0, none⟩)] 59)) (.cells #[.bool true, .pointer (some ⟨d, 0, none⟩), .int .i64 1, .pointer (some ⟨N, 0, none⟩)] 61)
  rw [World.size_alloc] at hP
  go_ret2
  exact ⟨_, rfl, ⟨1, [], N, hP, (HW2.out.kept hg1 (fun e => nomatch e)).kept hg2 (fun e => nomatch e), (HO2.out.new hg1).new hg2, HQ2.out, rfl, Nat.le_refl _, Nat.le_refl _, by decide, base.up _ (by have h1 := HX.out.1.lo; have h2 := HB2.out.size; omega), hPN⟩, butD_tr (butD_tr HB2.out (But.of_below (grown_below hg1))) (But.of_below (grown_below hg2))⟩
set_option maxRecDepth 100000 in
set_option maxHeartbeats 8000000 in
theorem ptSave (v : Value) (l : List ByteArray) (w : World) (h : PtO base w d m p L sure cp A) (hs : ∀ X, ButD base w X → SliceOf strE 1 X v l) (hl : l.length + m ≤ 500) (hsz : ∀ z ∈ l, z.size ≤ 60000) (ht : Tab w) (hb : ¬ base.P 0) : Calls Tryd.prog 25 #[pt p 0, v] w fun e w' => e = .returned (.int .i64 0) ∧ PtO base w' d (m + l.length + 1) p l l.length l.length ((hdP l.length :: l.map tT).foldl appA []) ∧ ButP base p w w' := by
  have hmf : ∀ (fn : Fn) (first cap : Array Value) (w : World), (Instr.makeFunc fn first cap).run Tryd.prog w = .ok (.func fn first cap) w := fun _ _ _ _ => rfl
  obtain ⟨first, xs, N, h1, h2, h3, h4, h5, h6, h7, h8⟩ := h
  obtain ⟨s, hX⟩ := h3
  have hX : WlX base w d m first A xs s := hX
  have H1 := Lib.hid h1; have H2 := Lib.hid h2; have HX := Lib.hid hX; have HT := Lib.hid ht; have HS := Lib.hid hs; have HSZ := Lib.hid hsz; have HL := Lib.hid hl; have H8 := Lib.hid h8
  have hle : l.length ≤ 500 := by omega
  clear h1 h2 hX ht hs hsz hl h4 h5 h6 h7 h8
  go_enter Tryd.func25, Tryd.ntmps25
  simp only [pt]
  go_wp2_with fail
  refine (pzero_any w H1.out).mono ?_
  rintro e w1 ⟨rfl, rfl⟩
  obtain ⟨va, vc, rfl, -⟩ := HS.out w (But.refl _ _)
  go_wp2_with fail
  go_loopg [14] (l.length + 1) (fun g s14 wr => ∃ i : Nat, s14 = .int .i64 i ∧ i ≤ l.length ∧ l.length + 1 ≤ i + g ∧ w = wr)
  case atStart => exact ⟨0, rfl, by omega, by omega, rfl⟩
  case round =>
    obtain ⟨i, rfl, hi, hg, rfl⟩ := hrel
    by_cases hlt : i < l.length
    · obtain ⟨va', vc', e, -, -, -, hat⟩ := HS.out w (But.refl _ _)
      cases e
      obtain ⟨gb, go, rfl, hr⟩ := hat i hlt
      have hz1 := HSZ.out l[i] (List.getElem_mem hlt)
      obtain ⟨z, hzz⟩ : ∃ z, z = l[i] := ⟨_, rfl⟩
      rw [← hzz] at hz1 hr
      have hg2 : w.cell? ⟨gb, go + i, none⟩ = some (.string z) := by
        have h9 := hr 0 (.string z) rfl
        rw [Nat.mul_one] at h9
        exact h9
      have hsq : decide ((65536 : Int) ≤ (z.size : Int)) = false := decide_eq_false (by omega)
      have hszz : z.size ≤ 9223372036854775000 := Nat.le_trans hz1 (by decide)
      have HLT := Lib.hid hlt
      clear hat hr hzz hz1
      go_wp2
      go_roundg (gk - 1)
      case rel => exact ⟨i + 1, by go_num, HLT.out, by omega, rfl⟩
      case measure => omega
    · have hq : i = l.length := by omega
      subst hq
      have c2 := H1.out.cell (k := 2) rfl
      have hlg := HX.out.2.1.logs
      obtain ⟨k1, k2⟩ := HX.out.2.1.sgs HX.out.2.2.1 (by have := HL.out; omega) HX.out.2.2.2.2.2.2.1
      have hrl := run_len xs A
      have hxl := HX.out.2.2.2.2.2.1
      have hLL := HL.out
      have hDs : DsO base d (xs.foldl appA A).length s (sgA first (xs.foldl appA A)) w := ⟨HX.out.1, by omega, k1, k2, HT.out, hb⟩
      have h8 := H8.out
      have hfb : 1 ≤ first ∧ first ≤ 900000000 := ⟨HX.out.2.2.2.2.2.2.2.1, by omega⟩
      have HLG := Lib.hid hlg; have HDS := Lib.hid hDs; have HFB := Lib.hid hfb; have HRL : Hid ((xs.foldl appA A).length ≤ m) := Lib.hid (by omega)
      obtain ⟨nA, hnA⟩ : ∃ n, n = (xs.foldl appA A).length := ⟨_, rfl⟩
      have hnm : nA ≤ 500 := by have := HRL.out; omega
      have HNA := Lib.hid hnA
      clear hnA hlg hDs k1 k2 hrl hxl h8
      go_wp2_with fail
      have lp := H1.out.lt
      have hz9 : -9223372036854775808 ≤ first + (nA : Int) ∧ first + (nA : Int) ≤ 9223372036854775807 := by omega
      go_region_law (go_simp; go_at_call 43; first
        | (refine (psegs_any p N first _ _ (HDS.out.below (grown_below (drew_grown _))) HLG.out (by have := HFB.out; omega) (H1.out.below (grown_below (drew_grown _)))).mono ?_; rintro e w2 ⟨u2, rfl, hr2, h9, hb9⟩; rw [← HNA.out] at hr2; obtain ⟨ua, uc, rfl, -, -⟩ := row_view hr2; have q2 := (blkD (H1.out.below (grown_below (drew_grown _))) (by decide) hb9).cell (k := 2) rfl; have l2 := (blkD (H1.out.below (grown_below (drew_grown _))) (by decide) hb9).lt; have H9 := Lib.hid h9; have HB9 := Lib.hid (butD_tr (But.of_below (grown_below (drew_grown w))) hb9); clear h9 hb9 hr2)
        | (have hgw := (World.grownBy_alloc w (.cells #[.int .i64 0] 3) none).trans (drew_grown _); refine (psegs_any p N first _ _ (HDS.out.below (grown_below hgw)) HLG.out (by have := HFB.out; omega) (H1.out.below (grown_below hgw))).mono ?_; rintro e w2 ⟨u2, rfl, hr2, h9, hb9⟩; rw [← HNA.out] at hr2; obtain ⟨ua, uc, rfl, -, -⟩ := row_view hr2
           have hbx : Blk (w.alloc (.cells #[.int .i64 0] 3)).drew w.heap.size 3 #[.int .i64 0] := Blk.kept (World.alloc_heap_new w _) (drew_grown _) (fun e => nomatch e)
           have hbx2 := blkD hbx (by decide) hb9; have q2 := (blkD (H1.out.below (grown_below hgw)) (by decide) hb9).cell (k := 2) rfl; have k0 := hbx2.cell (k := 0) rfl; have f0 := hbx2.frozen 0; have HX2 := Lib.hid hbx2
           have H9 := Lib.hid h9; have HB9 := Lib.hid (butD_tr (But.of_below (grown_below hgw)) hb9); clear h9 hb9 hr2 hbx hbx2 hgw))
      all_goals (have hwr : IntKind.i64.wrap (first + (nA : Int)) = first + (nA : Int) := IntWalk.i64_in _ hz9)
      all_goals (try rw [hwr])
      all_goals (clear q2 lp c2 hwr)
      all_goals (try clear l2)
      all_goals (try clear k0 f0)
      all_goals (first
        | (obtain ⟨W3, hW3⟩ : ∃ W3, w2.alloc (.cells #[.int .i64 (first + (nA : Int))] 3) = W3 := ⟨_, rfl⟩
           rw [hW3]
           have hgA := World.grownBy_alloc w2 (.cells #[.int .i64 (first + (nA : Int))] 3) none
           have hx3 : Boxed (w2.alloc (.cells #[.int .i64 (first + (nA : Int))] 3)) w2.heap.size 3 (.int .i64 (first + (nA : Int))) := Boxed.new w2 _ _
           obtain ⟨bn, hbn⟩ : ∃ bn, bn = w2.heap.size := ⟨_, rfl⟩
           rw [← hbn] at hx3 ⊢
           rw [hW3] at hgA hx3
           have HX3 := Lib.hid hx3; have HO3 := Lib.hid (H9.out.obj.new hgA); have HB3 := Lib.hid (butD_tr HB9.out (But.of_below (grown_below hgA)))
           clear hW3 hgA hx3 hbn)
        | (obtain ⟨W3, hW3⟩ : ∃ W3, w2.setCell ⟨w.heap.size, 0, none⟩ (.int .i64 (first + (nA : Int))) = W3 := ⟨_, rfl⟩
           rw [hW3]
           have hx3 := setCell_blk HX2.out 0 (.int .i64 (first + (nA : Int)))
           have hx4 : Boxed (w2.setCell ⟨w.heap.size, 0, none⟩ (.int .i64 (first + (nA : Int)))) w.heap.size 3 (.int .i64 (first + (nA : Int))) := hx3
           have ho3 := H9.out.obj.at HX2.out (by decide) (grown_setCell _ w.heap.size 0 (.int .i64 (first + (nA : Int))))
           have hb3 := HB9.out.setCell (p := ⟨w.heap.size, 0, none⟩) (fun hp => absurd hp (by simp)) (.int .i64 (first + (nA : Int)))
           obtain ⟨bn, hbn⟩ : ∃ bn, bn = w.heap.size := ⟨_, rfl⟩
           rw [hW3] at hx4 ho3 hb3
           rw [← hbn] at hx4 ⊢
           have HX3 := Lib.hid hx4; have HO3 := Lib.hid ho3; have HB3 := Lib.hid hb3
           clear hW3 hx3 hx4 ho3 hb3 hbn HX2))
      all_goals (have k1 : W3.cell? ⟨p, 1, none⟩ = some (.pointer (some ⟨d, 0, none⟩)) := (blkD H1.out (by decide) HB3.out).cell (k := 1) rfl; have k2 := HX3.out.cell; have l1 := (blkD H1.out (by decide) HB3.out).lt; have l2 := HX3.out.lt)
      all_goals (have hB3 := WlO.bg (m := m) (show WlX base W3 d m first A xs s from ⟨HO3.out, HX.out.2⟩) (by omega) HFB.out.2 (tab_butD HT.out HB3.out hb) hb; rw [← HNA.out] at hB3; have HBG := Lib.hid hB3; clear hB3)
      all_goals (have hs3 := HB3.out.size)
      all_goals (go_wp2_with fail)
      all_goals (go_region_law (go_simp; go_at_call 37; first
        | (refine (begin_any _ l _ (HBG.out.below (grown_below (drew_grown _))) (fun X hX => HS.out X (butD_tr (butD_tr HB3.out (But.of_below (grown_below (drew_grown _)))) hX)) (by omega) HSZ.out).mono ?_; rintro e w4 ⟨N2, c', s', old', rfl, ⟨hW4, hPN⟩, hG4, hD4, hc4, hI4, hbo4, hb4, -⟩; simp only [pt]; have HPN := Lib.hid hPN; clear hPN; have HW4 := Lib.hid hW4; have HG4 := Lib.hid hG4; have HD4 := Lib.hid hD4; have HI4 := Lib.hid hI4; have HBO4 := Lib.hid hbo4; have HC4 := Lib.hid hc4; have HB34 := Lib.hid (butD_tr (But.of_below (grown_below (drew_grown W3))) hb4); clear hW4 hG4 hD4 hc4 hI4 hbo4 hb4)
        | (have hgw := (World.grownBy_alloc W3 (.cells #[.pointer none, .int .i64 0, .pointer none] 59) none).trans (drew_grown _); refine (begin_any _ l _ (HBG.out.below (grown_below hgw)) (fun X hX => HS.out X (butD_tr (butD_tr HB3.out (But.of_below (grown_below hgw))) hX)) (by omega) HSZ.out).mono ?_; rintro e w4 ⟨N2, c', s', old', rfl, ⟨hW4, hPN⟩, hG4, hD4, hc4, hI4, hbo4, hb4, -⟩; simp only [pt]; have HPN := Lib.hid hPN; clear hPN
           have hbx : Blk (W3.alloc (.cells #[.pointer none, .int .i64 0, .pointer none] 59)).drew W3.heap.size 59 #[.pointer none, .int .i64 0, .pointer none] := Blk.kept (World.alloc_heap_new W3 _) (drew_grown _) (fun e => nomatch e)
           have hbx2 := blkD hbx (by decide) hb4; have g0 := hbx2.cell (k := 0) rfl; have g1 := hbx2.cell (k := 1) rfl; have g2 := hbx2.cell (k := 2) rfl; have f0 := hbx2.frozen 0; have f1 := hbx2.frozen 1; have f2 := hbx2.frozen 2; have HX4 := Lib.hid hbx2
           have HW4 := Lib.hid hW4; have HG4 := Lib.hid hG4; have HD4 := Lib.hid hD4; have HI4 := Lib.hid hI4; have HBO4 := Lib.hid hbo4; have HC4 := Lib.hid hc4; have HB34 := Lib.hid (butD_tr (But.of_below (grown_below hgw)) hb4); clear hW4 hG4 hD4 hc4 hI4 hbo4 hb4 hbx hbx2 hgw)))
      all_goals (try clear k1 k2 l1 l2)
      all_goals (first
        | (obtain ⟨W5, hW5⟩ : ∃ W5, w4.alloc (.cells #[.pointer (some ⟨d, 0, none⟩), .int .i64 (first + (nA : Int)), .pointer (some ⟨N2, 0, none⟩)] 59) = W5 := ⟨_, rfl⟩
           rw [hW5]
           have hgA := World.grownBy_alloc w4 (.cells #[.pointer (some ⟨d, 0, none⟩), .int .i64 (first + (nA : Int)), .pointer (some ⟨N2, 0, none⟩)] 59) none
           have hx5 := World.alloc_heap_new w4 (.cells #[.pointer (some ⟨d, 0, none⟩), .int .i64 (first + (nA : Int)), .pointer (some ⟨N2, 0, none⟩)] 59)
           obtain ⟨bl, hbl⟩ : ∃ bl, bl = w4.heap.size := ⟨_, rfl⟩
           rw [← hbl] at hx5 ⊢
           rw [hW5] at hgA hx5
           have HL5 : Hid (Blk W5 bl 59 #[.pointer (some ⟨d, 0, none⟩), .int .i64 (first + (nA : Int)), .pointer (some ⟨N2, 0, none⟩)]) := Lib.hid hx5
           have HO5 := Lib.hid (HD4.out.new hgA); have HN5 := Lib.hid (HW4.out.kept hgA (fun e => nomatch e)); have HB35 := Lib.hid (butD_tr HB34.out (But.of_below (grown_below hgA)))
           clear hW5 hgA hx5 hbl)
        | (have hnN : N2 ≠ W3.heap.size := fun e => by have h1 := HW4.out; rw [e] at h1; exact absurd (Option.some.inj (h1.symm.trans HX4.out)) (by simp)
           have q0 := setCell_blk HX4.out 0 (.pointer (some ⟨d, 0, none⟩))
           have q1 := setCell_blk q0 1 (.int .i64 (first + (nA : Int)))
           have q2 := setCell_blk q1 2 (.pointer (some ⟨N2, 0, none⟩))
           have n1 := HW4.out.kept (grown_setCell _ W3.heap.size 0 (.pointer (some ⟨d, 0, none⟩))) (fun e => hnN (Option.some.inj e).symm)
           have n2 := n1.kept (grown_setCell _ W3.heap.size 1 (.int .i64 (first + (nA : Int)))) (fun e => hnN (Option.some.inj e).symm)
           have n3 := n2.kept (grown_setCell _ W3.heap.size 2 (.pointer (some ⟨N2, 0, none⟩))) (fun e => hnN (Option.some.inj e).symm)
           have o1 := HD4.out.at HX4.out (by decide) (grown_setCell _ W3.heap.size 0 (.pointer (some ⟨d, 0, none⟩)))
           have o2 := o1.at q0 (by decide) (grown_setCell _ W3.heap.size 1 (.int .i64 (first + (nA : Int))))
           have o3 := o2.at q1 (by decide) (grown_setCell _ W3.heap.size 2 (.pointer (some ⟨N2, 0, none⟩)))
           have b3 := ((HB34.out.setCell (p := ⟨W3.heap.size, 0, none⟩) (fun hp => absurd hp (by simp)) (.pointer (some ⟨d, 0, none⟩))).setCell (p := ⟨W3.heap.size, 1, none⟩) (fun hp => absurd hp (by simp)) (.int .i64 (first + (nA : Int)))).setCell (p := ⟨W3.heap.size, 2, none⟩) (fun hp => absurd hp (by simp)) (.pointer (some ⟨N2, 0, none⟩))
           obtain ⟨W5, hW5⟩ : ∃ W5, (((w4.setCell ⟨W3.heap.size, 0, none⟩ (.pointer (some ⟨d, 0, none⟩))).setCell ⟨W3.heap.size, 1, none⟩ (.int .i64 (first + (nA : Int)))).setCell ⟨W3.heap.size, 2, none⟩ (.pointer (some ⟨N2, 0, none⟩))) = W5 := ⟨_, rfl⟩
           rw [hW5]
           obtain ⟨bl, hbl⟩ : ∃ bl, bl = W3.heap.size := ⟨_, rfl⟩
           rw [hW5] at q2 n3 o3 b3
           rw [← hbl] at q2 ⊢
           have HL5 : Hid (Blk W5 bl 59 #[.pointer (some ⟨d, 0, none⟩), .int .i64 (first + (nA : Int)), .pointer (some ⟨N2, 0, none⟩)]) := Lib.hid q2
           have HO5 := Lib.hid o3; have HN5 := Lib.hid n3; have HB35 := Lib.hid b3
           clear hW5 hbl q0 q1 q2 n1 n2 n3 o1 o2 o3 b3 hnN HX4 g0 g1 g2 f0 f1 f2))
      all_goals (have HX5 := Lib.hid (boxD HX3.out (by decide) HB35.out); have HP5 := Lib.hid (blkD (blkD H1.out (by decide) HB3.out) (by decide) HB35.out); have HB5 := Lib.hid (butD_tr HB3.out HB35.out))
      all_goals (have c0 := HL5.out.cell (k := 0) rfl; have c1 := HL5.out.cell (k := 1) rfl; have c2 := HL5.out.cell (k := 2) rfl; have k1 : W5.cell? ⟨p, 1, none⟩ = some (.pointer (some ⟨d, 0, none⟩)) := HP5.out.cell (k := 1) rfl; have k2 := HP5.out.cell (k := 2) rfl; have k3 : W5.cell? ⟨p, 3, none⟩ = some (.pointer (some ⟨N, 0, none⟩)) := HP5.out.cell (k := 3) rfl; have f1 := HP5.out.frozen 1; have f2 := HP5.out.frozen 2; have f3 := HP5.out.frozen 3)
      all_goals (go_wp2_with fail)
      all_goals (clear c0 c1 c2 k1 k2 k3 f1 f2 f3)
      all_goals (have q0 := setCell_blk HP5.out 1 (.pointer (some ⟨d, 0, none⟩)); have q1 := setCell_blk q0 2 (.int .i64 (first + (nA : Int))); have q2 := setCell_blk q1 3 (.pointer (some ⟨N2, 0, none⟩)))
      all_goals (have hnN : N2 ≠ p := fun e => by have h1 := HN5.out; rw [e] at h1; exact absurd (Option.some.inj (h1.symm.trans HP5.out)) (by simp))
      all_goals (have hnB : bn ≠ p := fun e => by have h1 := Boxed.blkW HX5.out; rw [e] at h1; exact absurd (Option.some.inj (h1.symm.trans HP5.out)) (by simp))
      all_goals (have n1 := HN5.out.kept (grown_setCell _ p 1 (.pointer (some ⟨d, 0, none⟩))) (fun e => hnN (Option.some.inj e).symm); have n2 := n1.kept (grown_setCell _ p 2 (.int .i64 (first + (nA : Int)))) (fun e => hnN (Option.some.inj e).symm); have n3 := n2.kept (grown_setCell _ p 3 (.pointer (some ⟨N2, 0, none⟩))) (fun e => hnN (Option.some.inj e).symm))
      all_goals (have x1 := (Boxed.blkW HX5.out).kept (grown_setCell _ p 1 (.pointer (some ⟨d, 0, none⟩))) (fun e => hnB (Option.some.inj e).symm); have x2 := x1.kept (grown_setCell _ p 2 (.int .i64 (first + (nA : Int)))) (fun e => hnB (Option.some.inj e).symm); have x3 := x2.kept (grown_setCell _ p 3 (.pointer (some ⟨N2, 0, none⟩))) (fun e => hnB (Option.some.inj e).symm))
      all_goals (have o1 := HO5.out.at HP5.out (by decide) (grown_setCell _ p 1 (.pointer (some ⟨d, 0, none⟩))); have o2 := o1.at q0 (by decide) (grown_setCell _ p 2 (.int .i64 (first + (nA : Int)))); have o3 := o2.at q1 (by decide) (grown_setCell _ p 3 (.pointer (some ⟨N2, 0, none⟩))))
      all_goals (have b4 := (((butP_of (p := p) HB5.out).setCell (p := ⟨p, 1, none⟩) (fun _ => .inr rfl) (.pointer (some ⟨d, 0, none⟩))).setCell (p := ⟨p, 2, none⟩) (fun _ => .inr rfl) (.int .i64 (first + (nA : Int)))).setCell (p := ⟨p, 3, none⟩) (fun _ => .inr rfl) (.pointer (some ⟨N2, 0, none⟩)))
      all_goals (obtain ⟨W6, hW6⟩ : ∃ W6, (((W5.setCell ⟨p, 1, none⟩ (.pointer (some ⟨d, 0, none⟩))).setCell ⟨p, 2, none⟩ (.int .i64 (first + (nA : Int)))).setCell ⟨p, 3, none⟩ (.pointer (some ⟨N2, 0, none⟩))) = W6 := ⟨_, rfl⟩)
      all_goals (rw [hW6] at q2 n3 x3 o3 b4 ⊢)
      all_goals (have HP6 := Lib.hid q2; have HN6 := Lib.hid n3; have HX6 := Lib.hid x3; have HO6 := Lib.hid o3; have HB6 := Lib.hid b4)
      all_goals (clear hW6 q0 q1 q2 n1 n2 n3 x1 x2 x3 o1 o2 o3 b4 hnN hnB)
      all_goals (refine (dropS_any bn (first + (nA : Int)) W6 HO6.out (by have := HC4.out; omega) (by rw [HG4.out.ps]; rfl) HX6.out).mono ?_; rintro e w7 ⟨rfl, hD7, hb7⟩; have HD7 := Lib.hid hD7; have HB7 := Lib.hid hb7; clear hD7 hb7)
      all_goals (go_wp2)
      all_goals (go_ret)
      all_goals (have hbo := HX.out.2.2.2; have hbe := HBO4.out; have h8 := H8.out)
      all_goals (exact ⟨rfl, ⟨first + (nA : Int), [], N2, blkD HP6.out (by decide) HB7.out, blkD HN6.out (by decide) HB7.out, wl_of HG4.out.drop HD7.out (HI4.out.drop HG4.out.ps _) (by show 0 ≤ s'.boots; omega) (by show s'.boots ≤ _; omega) (by omega) (by omega), by rw [txt_run, List.take_length]; rfl, by rw [List.drop_length]; rfl, Nat.le_refl _, Nat.le_refl _, by omega, h8.2.1, HPN.out⟩, butP_tr HB6.out HB7.out⟩)
theorem ptFiles (w : World) (h : PtO base w d m p L sure cp A) (hm : m ≤ 900) : Calls Tryd.prog 26 #[pt d 0] w fun e w' => ∃ (ys : List Int) (u : Value), e = .returned u ∧ w'.ownsRow w.heap.size 3 1 u ys.length (ys.flatMap (intE .i64)) ∧ ys.length = (((L.drop sure).map tT).foldl appA A).length ∧ PtO base w' d m p L sure cp A ∧ ButD base w w' := by
  obtain ⟨first, xs, N, h1, h2, ⟨s, hX⟩, h4, h5, h6⟩ := h
  subst h5
  have hrl := run_len ((L.drop sure).map tT) A
  have hxl := hX.2.2.2.2.2.1
  refine (tFiles w hX.1 (by omega)).mono ?_
  rintro e x ⟨ys, u, k1, k2, k3, k4, k5, k6⟩
  refine ⟨ys, u, k1, k2, ?_, ⟨first, _, N, blkD h1 (by decide) k6, blkD h2 (by decide) k6, ⟨s, k5, hX.2⟩, h4, rfl, h6⟩, k6⟩
  have hf := hX.2.1.logs.fil ⟨ys, k3, Nat.le_refl _, rfl⟩
  rw [List.filter_eq_self.2 (fun z hz => by
    have h9 := (k3.2 z).1 hz
    rw [hX.2.1.on z] at h9; unfold flW at h9
    by_cases hl : first ≤ z
    · exact decide_eq_true hl
    · rw [if_neg hl] at h9; cases h9)] at hf
  rw [hf, segN_len]
end
end Go.Proofs.YtfiplhnplmadmaaDoor

/- Package point: Open of a disk that bears a log among other files. Conditions: at most 800 calls. -/
namespace Go.Proofs.YtfiplhnplmadmaaDoor
open Go.RowKit Go.PlainAid Go.Shelf
set_option linter.unusedVariables false
theorem txt_mid (G : List WSeg) (k0 k1 : Nat) : (txtA ((G.take k1).drop k0)).length ≤ (txtA G).length := by
  have e1 : txtA G = txtA (G.take k1) ++ txtA (G.drop k1) := by unfold txtA; rw [← List.flatMap_append, List.take_append_drop]
  have e2 : txtA (G.take k1) = txtA ((G.take k1).take k0) ++ txtA ((G.take k1).drop k0) := by unfold txtA; rw [← List.flatMap_append, List.take_append_drop]
  rw [e1, e2, List.length_append, List.length_append]; omega
/-- The files of a part of the log. -/
theorem WSt.mid {s : DkS} {first : Int} {G : List WSeg} {k1 : Nat} (h : WSt s first G []) (hk : k1 ≤ G.length) (k0 : Nat) : WSt (dropF (fun k => decide (first + (k0 : Int) ≤ k) && decide (k < first + (k1 : Int))) s) (first + (k0 : Int)) ((G.take k1).drop k0) [] := by
  have hE : ∀ j : Nat, ((G.take k1).drop k0)[j]? = if k0 + j < k1 then G[k0 + j]? else none := fun j => by rw [List.getElem?_drop, List.getElem?_take]
  refine ⟨fun k => ?_, h.ps, fun y hy => h.ok y (List.mem_of_mem_take (List.mem_of_mem_drop hy)), fun x hx => by cases hx⟩
  show (if (decide (first + (k0 : Int) ≤ k) && decide (k < first + (k1 : Int))) = true then s.fm k else none) = flW (first + (k0 : Int)) ((G.take k1).drop k0) ((G.take k1).drop k0) k
  rw [h.on k]
  show _ = flW _ _ _ _
  unfold flW
  by_cases h1 : first + (k0 : Int) ≤ k
  · have e : (k - first).toNat = k0 + (k - (first + (k0 : Int))).toNat := by omega
    rw [if_pos h1]
    by_cases h2 : k < first + (k1 : Int)
    · rw [decide_eq_true h1, decide_eq_true h2]
      show (if first ≤ k then _ else none) = _
      rw [if_pos (by omega)]
      have h3 : k0 + (k - (first + (k0 : Int))).toNat < k1 := by omega
      have e1 : ((G.take k1).drop k0)[(k - (first + (k0 : Int))).toNat]? = G[(k - first).toNat]? := by rw [hE, if_pos h3, e]
      have e2 : bytA ((G.take k1).drop k0) (k - (first + (k0 : Int))).toNat = bytA G (k - first).toNat := by unfold bytA; rw [e1]
      rw [e1, e2]; rfl
    · have e9 : ((G.take k1).drop k0)[(k - (first + (k0 : Int))).toNat]? = none := by rw [hE, if_neg (by omega)]
      rw [decide_eq_false h2, Bool.and_false, if_neg (by decide), e9]; rfl
  · rw [decide_eq_false h1, Bool.false_and, if_neg (by decide), if_neg h1]
section
variable {base : Zn} {d m k0 k1 : Nat} {w x : World} {first : Int} {E G : List WSeg} {cp : Nat} {l : List ByteArray}
set_option maxRecDepth 100000 in
set_option maxHeartbeats 4000000 in
theorem ptOpenG (w : World) (h : WlO base w d m first G []) (hO : OpenR first G k0 k1) (hEq : E = (G.take k1).drop k0) (hT : txtA E = hdP cp :: l.map tT) (hc : cp ≤ l.length) (hm : m ≤ 800) (hf : first + (m : Int) ≤ 1 + (m : Int) * 1000) (ht : Tab w) (hb : ¬ base.P 0) : Calls Tryd.prog 24 #[pt d 0] w fun e w' => ∃ p : Nat, e = .returned (.tuple #[pt p 0, .int .i64 0]) ∧ PtO base w' d m p l l.length cp E ∧ ButD base w w' := by
  obtain ⟨s, hX⟩ := h
  have hX : WlX base w d m first G [] s := hX
  have hln := hX.2.2.2.2.2.2.1
  have hEl : (txtA E).length ≤ (txtA G).length := by rw [hEq]; exact txt_mid G k0 k1
  have hl : l.length ≤ 900 := by rw [hT, List.length_cons, List.length_map] at hEl; simp only [List.length_nil] at hln; omega
  have hGm : G.length ≤ m := by have := hX.2.2.2.2.2.1; simp only [List.length_nil] at this; omega
  have hEn : G.length ≤ 900 := by have := hX.2.2.2.2.2.1; simp only [List.length_nil] at this; omega
  have hE0 : 0 < G.length := Nat.lt_of_lt_of_le (Nat.lt_of_le_of_lt (Nat.zero_le _) hO.lt) hO.le
  obtain ⟨g1, g2⟩ := sgE_all hX.2.1 hX.2.2.1 (by omega) (by simp only [List.length_nil] at hln; omega)
  have hf1 := hX.2.2.2.2.2.2.2.1
  have hDs : DsO base d G.length s (sgE first G) w := ⟨hX.1, by omega, g1, g2, ht, hb⟩
  have hwf := hO.at0
  have hwo := hO.oth
  have hlt := hO.lt; have hle := hO.le
  have hdn := hX.2.1.mid hO.le k0
  have hEn2 : E.length = k1 - k0 := by rw [hEq, List.length_drop, List.length_take]; omega
  have hps : s.ps.length = 0 := by rw [hX.2.1.ps]; rfl
  have HX := Lib.hid hX; have HDS := Lib.hid hDs; have HWF := Lib.hid hwf; have HWO := Lib.hid hwo; have HT := Lib.hid hT; have HTB := Lib.hid ht; have HDN := Lib.hid hdn; have HEQ := Lib.hid hEq; have HEN := Lib.hid hEn2; have HEL := Lib.hid hEl; have HGM := Lib.hid hGm; have HPS := Lib.hid hps; have HC := Lib.hid hc; have HM := Lib.hid hm; have HF := Lib.hid hf; have HF1 := Lib.hid hf1
  clear hX hDs hwf hwo hT ht hdn hps g1 g2 hln hc hO hEq hEn2 hEl hGm hf1
  go_enter Tryd.func24, Tryd.ntmps24
  simp only [pt]
  go_wp2_with fail
  refine (tFiles w HX.out.1 (by show G.length ≤ _; omega)).mono ?_
  rintro e w1 ⟨ys, u, rfl, hr1, hK1, -, hD1, hb1⟩
  have hys : ys = segN first G.length := by
    have h9 := HX.out.2.1.logs.fil ⟨ys, hK1, Nat.le_refl _, rfl⟩
    rw [List.filter_eq_self.2 (fun z hz => by
      have h9 := HX.out.2.1.on.keys z ((hK1.2 z).1 hz)
      rw [segN_mem] at h9
      exact decide_eq_true (by omega))] at h9
    exact h9
  subst hys
  rw [segN_len] at hr1
  obtain ⟨n, hn⟩ : ∃ n, n = G.length := ⟨_, rfl⟩
  rw [← hn] at hr1 hEn hE0 hle
  obtain ⟨ao, cap, rfl, -, -⟩ := row_view hr1
  have HD1 := Lib.hid (HDS.out.turn hD1 hb1); have HB1 := Lib.hid hb1; have HR1 := Lib.hid (row_lows hr1 (Nat.zero_le _) : w1.ownsRow 0 3 1 (.slice ao n cap) n ((segN first n).flatMap (intE .i64))); have HN := Lib.hid hn
  clear hr1 hK1 hD1 hb1 hn
  go_wp2_with fail
  go_loopg [17] (n + 1) (fun g s17 wr => ∃ i : Nat, s17 = .int .i64 i ∧ i + k0 < n ∧ n + 1 ≤ i + g ∧ Hid (wr.ownsRow 0 3 1 (.slice ao n cap) n ((segN first n).flatMap (intE .i64))) ∧ Hid (DsO base d G.length s (sgE first G) wr) ∧ Hid (ButD base w wr))
  case atStart => exact ⟨0, rfl, by omega, by omega, HR1, HD1, HB1⟩
  case round =>
    obtain ⟨i, rfl, hi0, hg, HR, HD, HB⟩ := hrel
    have hi : i < n := by omega
    obtain ⟨j, hj⟩ : ∃ j, j = n - 1 - i := ⟨_, rfl⟩
    have hjn : j < n := by omega
    have hj9 : k0 ≤ j := by omega
    obtain ⟨au, cu, e, -, hat⟩ := row_view HR.out
    cases e
    obtain ⟨g2, rfl, -, hg2⟩ := hat j hjn
    rw [flat_ints, List.getElem?_map, segN_get _ _ _ hjn] at hg2
    obtain ⟨q, hq⟩ : ∃ q : Int, q = first + (j : Int) := ⟨_, rfl⟩
    rw [← hq] at hg2
    replace hg2 : wr.cell? ⟨g2, j, none⟩ = some (.int .i64 q) := hg2
    have e1 : (n : Int) - 1 - (i : Int) = (j : Int) := by omega
    have hqr : 1 ≤ q ∧ q ≤ 2000000000 := by have := HF.out; have := HF1.out; have := HM.out; have := HGM.out; have := HN.out; omega
    have HQ := Lib.hid hq; have HQR := Lib.hid hqr; have HJ := Lib.hid hj
    have hlt : i < n := hi
    clear hat hq hj
    go_wp2_with fail
    obtain ⟨bf, hbf⟩ : ∃ b, b = wr.heap.size := ⟨_, rfl⟩
    have hgB := World.grownBy_alloc wr (.cells #[.int .i64 q] 3) none
    have hxB : Boxed (wr.alloc (.cells #[.int .i64 q] 3)) wr.heap.size 3 (.int .i64 q) := Boxed.new wr _ _
    obtain ⟨wB, hwB⟩ : ∃ wB, wr.alloc (.cells #[.int .i64 q] 3) = wB := ⟨_, rfl⟩
    rw [hwB] at hgB hxB ⊢
    rw [← hbf] at hxB ⊢
    have HXB := Lib.hid hxB; have HDB := Lib.hid (HD.out.below (grown_below hgB)); have HBB := Lib.hid (butD_tr HB.out (But.of_below (grown_below hgB))); have HRB := Lib.hid (row_below HR.out (grown_below hgB))
    clear hwB hgB hxB hbf hg2
    refine (whole_any q (segN first n) _ 0 wB HDB.out HQR.out (by rw [segN_len]; omega) (by rw [segN_len]; exact HRB.out)).mono ?_
    rintro e w3 ⟨u3', rfl, hu, hD3, hb3⟩
    have HX3 := Lib.hid (boxD HXB.out int_off hb3); have HD3 := Lib.hid hD3; have HB3 := Lib.hid (butD_tr HBB.out hb3); have HR3 := Lib.hid (rowD HRB.out int_off hb3)
    clear hD3 hb3
    by_cases hj0 : j = k0
    · subst hj0
      have hw9 : wholeF (sgE first G) q (segN first n) = segN q (k1 - j) := by rw [HQ.out, HN.out]; exact HWF.out
      rw [hw9, segN_len] at hu
      obtain ⟨ke, hke⟩ : ∃ ke, ke = k1 - j := ⟨_, rfl⟩
      rw [← hke] at hu
      have hkn : ke ≤ 900 := by omega
      have hk0 : 0 < ke := by omega
      have HKE := Lib.hid hke; have HLE := Lib.hid hle
      obtain ⟨sa, cs, rfl, -, -⟩ := row_view hu
      clear hke hlt hle hi0 hi hj9
      have hn0 : ((ke : Int) == 0) = false := by simp; omega
      clear hu hw9
      go_wp2_with fail
      obtain ⟨bs, hbs⟩ : ∃ b, b = w3.heap.size := ⟨_, rfl⟩
      have hgC := World.grownBy_alloc w3 (.cells #[.slice sa ke cs] 53) none
      have hxC : Boxed (w3.alloc (.cells #[.slice sa ke cs] 53)) w3.heap.size 53 (.slice sa ke cs) := Boxed.new w3 _ _
      obtain ⟨wC, hwC⟩ : ∃ wC, w3.alloc (.cells #[.slice sa ke cs] 53) = wC := ⟨_, rfl⟩
      rw [hwC] at hgC hxC ⊢
      rw [← hbs] at hxC ⊢
      have HXC := Lib.hid hxC; have HFC := Lib.hid (boxed_non HX3.out hgC (fun r e => nomatch e)); have HDC := Lib.hid (HD3.out.below (grown_below hgC)); have HBC := Lib.hid (butD_tr HB3.out (But.of_below (grown_below hgC)))
      clear hwC hgC hxC hbs
      refine (dropO_any bf bs q sa ke cs wC HDC.out.obj HDC.out.c6 HPS.out HFC.out HXC.out HQR.out (by omega)).mono ?_
      rintro e w5 ⟨rfl, hD5, hb5⟩
      have hmid : WSt (dropF (fun k => decide (q ≤ k) && decide (k < q + (ke : Int))) s) q E [] := by
        have h1 := HDN.out
        rw [← HEQ.out] at h1
        have e1 : (fun k => decide (q ≤ k) && decide (k < q + (ke : Int))) = (fun k => decide (first + (j : Int) ≤ k) && decide (k < first + (k1 : Int))) := by
          funext k; rw [HQ.out]
          have : first + (j : Int) + (ke : Int) = first + (k1 : Int) := by have := HKE.out; omega
          rw [this]
        rw [e1, HQ.out]; exact h1
      have hk5 := hD5.tight (hmid.on.keys)
      rw [segN_len] at hk5
      have hW5 : WlO base w5 d m q E [] := ⟨_, hk5, hmid, HX.out.2.2.1.drop (by have := HPS.out; exact List.eq_nil_of_length_eq_zero this) _, HX.out.2.2.2.1, HX.out.2.2.2.2.1, (by have := HEN.out; have := HGM.out; have := HKE.out; have := HN.out; have := HLE.out; simp only [List.length_nil]; omega), (by have := HEL.out; have := HX.out.2.2.2.2.2.2.1; simp only [List.length_nil] at this ⊢; omega), HQR.out.1, (by have := HQ.out; have := HF.out; have := HM.out; have := HGM.out; have := HN.out; have := HKE.out; have := HLE.out; omega)⟩
      clear hmid hk5
      have HF5 := Lib.hid (boxD HFC.out int_off hb5); have HB5 := Lib.hid (butD_tr HBC.out hb5); have HW5 : Hid (WlO base w5 d m q E []) := Lib.hid hW5; clear hW5
      have k5 := HF5.out.cell
      clear hD5 hb5
      go_wp2_with fail
      refine (wlOpen2 w5 HW5.out (by have := HM.out; omega) (tab_butD HTB.out HB5.out hb) hb).mono ?_
      rintro e w6 ⟨N, u6, rfl, ⟨hW6, hNlo⟩, -, h6, hb6⟩
      have HPN : Hid (base.P N) := Lib.hid (base.up _ (Nat.le_trans HW5.out.choose_spec.1.lo hNlo)); clear hNlo
      have HF6 := Lib.hid (boxD HF5.out int_off hb6); have HB6 := Lib.hid (butD_tr HB5.out hb6); have HW6 := Lib.hid hW6; have HO6 := Lib.hid h6
      have k6 := HF6.out.cell
      clear hW6 h6 hb6 k5
      simp only [pt]
      go_wp2
      have hg7 := World.grownBy_alloc w6 (.cells #[.bool true, .pointer (some ⟨d, 0, none⟩), .int .i64 q, .pointer (some ⟨N, 0, none⟩)] 61) none
      have hP := World.alloc_heap_new w6 (.cells #[.bool true, .pointer (some ⟨d, 0, none⟩), .int .i64 q, .pointer (some ⟨N, 0, none⟩)] 61)
      have hlo := HX.out.1.lo; have hsz6 := HB6.out.size
      go_ret2
      exact ⟨_, rfl, ⟨q, [], N, hP, HW6.out.kept hg7 (fun e => nomatch e), HO6.out.new hg7, by rw [List.take_length]; exact HT.out, by rw [List.drop_length]; rfl, HC.out, Nat.le_refl _, (by have := HQ.out; have := HF.out; have := HGM.out; have := HN.out; have := HKE.out; have := HLE.out; omega), base.up _ (by omega), HPN.out⟩, butD_tr HB6.out (But.of_below (grown_below hg7))⟩
    · have hw9 : wholeF (sgE first G) q (segN first n) = [] := by rw [HQ.out, HN.out]; exact HWO.out j (by omega) (by have := HN.out; omega)
      rw [hw9] at hu
      obtain ⟨sa, cs, rfl, -, -⟩ := row_view hu
      have hi1 : i + 1 + k0 < n := by have := HJ.out; omega
      have HI1 := Lib.hid hi1
      clear hu hw9 hi1
      go_wp2
      go_roundg (gk - 1)
      case rel => exact ⟨i + 1, by go_num, HI1.out, by omega, row_kept_new HR3.out (World.grownBy_alloc _ _ none), HD3.out.below (grown_below (World.grownBy_alloc _ _ none)), butD_tr HB3.out (But.of_below (grown_below (World.grownBy_alloc _ _ none)))⟩
      case measure => omega
end
end Go.Proofs.YtfiplhnplmadmaaDoor

/- Package point: what a made point's files and size are; a disk in which another log's files are being written. Conditions: at most 800 calls. -/
namespace Go.Proofs.YtfiplhnplmadmaaDoor
open Go.RowKit Go.PlainAid Go.Shelf
set_option linter.unusedVariables false
/-- A point that holds texts L, all safe, in segments A from first on. -/
def PtX (base : Zn) (w : World) (d m p : Nat) (L : List ByteArray) (cp : Nat) (A : List WSeg) (first : Int) : Prop :=
  ∃ N : Nat, Blk w p 61 #[.bool true, pt d 0, .int .i64 first, pt N 0] ∧ Blk w N 41 #[.bool true, pt d 0, .int .i64 first] ∧ WlO base w d m first A [] ∧ txtA A = hdP cp :: L.map tT ∧ cp ≤ L.length ∧ first ≤ 1 + (m : Int) * 1000 ∧ base.P p ∧ base.P N
section
variable {base : Zn} {d m p cp : Nat} {w x : World} {first : Int} {A G : List WSeg} {L l : List ByteArray}
theorem PtO.toX (h : PtO base w d m p L L.length cp A) : ∃ first, PtX base w d m p L cp A first := by
  obtain ⟨first, xs, N, h1, h2, h3, h4, h5, h6, h7, h8⟩ := h
  rw [List.drop_length] at h5
  rw [List.take_length] at h4
  obtain rfl : xs = [] := h5
  exact ⟨first, N, h1, h2, h3, h4, h6, h8⟩
theorem PtX.wl (h : PtX base w d m p L cp A first) : WlO base w d m first A [] ∧ first ≤ 1 + (m : Int) * 1000 := by
  obtain ⟨N, h1, h2, h3, h4, h5, h6⟩ := h; exact ⟨h3, h6.1⟩
theorem PtX.turnD (h : PtX base w d m p L cp A first) (hD : WlO base x d m first A []) (hb : ButD base w x) : PtX base x d m p L cp A first := by
  obtain ⟨N, h1, h2, h3, h4⟩ := h; exact ⟨N, blkD h1 (by decide) hb, blkD h2 (by decide) hb, hD, h4⟩
theorem wlFiles (w : World) (h : WlO base w d m first A []) (hm : m ≤ 900) : Calls Tryd.prog 26 #[pt d 0] w fun e w' => ∃ u : Value, e = .returned u ∧ w'.ownsRow w.heap.size 3 1 u A.length ((segN first A.length).flatMap (intE .i64)) ∧ WlO base w' d m first A [] ∧ ButD base w w' := by
  obtain ⟨s, hX⟩ := h
  have hX : WlX base w d m first A [] s := hX
  have hxl := hX.2.2.2.2.2.1
  simp only [List.length_nil] at hxl
  refine (tFiles w hX.1 (by show A.length ≤ _; omega)).mono ?_
  rintro e x ⟨ys, u, k1, k2, k3, k4, k5, k6⟩
  have hf := hX.2.1.logs.fil ⟨ys, k3, Nat.le_refl _, rfl⟩
  rw [List.filter_eq_self.2 (fun z hz => by
    have h9 := (k3.2 z).1 hz
    rw [hX.2.1.on z] at h9; unfold flW at h9
    by_cases hl : first ≤ z
    · exact decide_eq_true hl
    · rw [if_neg hl] at h9; cases h9)] at hf
  have hf : ys = segN first A.length := hf
  subst hf
  rw [segN_len] at k2
  exact ⟨u, k1, k2, ⟨s, k5, hX.2⟩, k6⟩
theorem wlData (w : World) (h : WlO base w d m first A []) (i : Nat) {y : WSeg} (hy : A[i]? = some y) : Calls Tryd.prog 27 #[pt d 0, .int .i64 (first + (i : Int))] w fun e w' => e = .returned (.string y.b) ∧ WlO base w' d m first A [] ∧ ButD base w w' := by
  obtain ⟨s, hX⟩ := h
  have hX : WlX base w d m first A [] s := hX
  refine (tData w _ hX.1).mono ?_
  rintro e x ⟨k1, k2, k3⟩
  rw [dat_seg hX.2.1.logs hy] at k1
  exact ⟨k1, ⟨s, k2, hX.2⟩, k3⟩
theorem psz_at {B : List WSeg} {i : Nat} {y : WSeg} (h : B[i]? = some y) : psz (B.take (i + 1)) = psz (B.take i) + y.b.size := by
  rw [List.take_add_one, h, psz_app]; simp [psz]
theorem psz_bd {B : List WSeg} {K : Nat} (h : ∀ y ∈ B, y.b.size ≤ K) (i : Nat) : psz (B.take i) ≤ i * K := by
  induction i with
  | zero => simp [psz]
  | succ i ih =>
    rw [Nat.succ_mul]
    cases hy : B[i]? with
    | none => rw [List.take_add_one, hy, Option.toList_none, List.append_nil]; exact Nat.le_trans ih (Nat.le_add_right _ _)
    | some y => rw [psz_at hy]; exact Nat.add_le_add ih (h y (List.mem_of_getElem? hy))
theorem wl_sz (h : WlO base w d m first A []) (hm : m ≤ 900) : ∀ y ∈ A, y.b.size ≤ 1000000000 := fun y hy => by
  obtain ⟨s, hX⟩ := h
  obtain ⟨g1, -⟩ := sgE_all hX.2.1 hX.2.2.1 hm (by have := hX.2.2.2.2.2.2.1; simp only [List.length_nil] at this; omega)
  obtain ⟨i, hi⟩ := List.getElem?_of_mem hy
  have := (g1 (first + (i : Int))).2.2
  rw [sgE_at, hi] at this; exact this
set_option maxRecDepth 100000 in
set_option maxHeartbeats 4000000 in
theorem ptSize (w : World) (h : PtX base w d m p L cp A first) (hm : m ≤ 900) (ht : Tab w) (hb : ¬ base.P 0) : Calls Tryd.prog 29 #[pt p 0] w fun e w' => e = .returned (.int .i64 ((psz A : Nat) : Int)) ∧ PtX base w' d m p L cp A first ∧ ButD base w w' := by
  have hsz := wl_sz h.wl.1 hm
  have hbd := psz_bd hsz
  obtain ⟨hlA, -⟩ := h.wl.1.len
  simp only [List.length_nil] at hlA
  have hfs := h.wl.2
  have H := Lib.hid h
  obtain ⟨N, h1, h2, ⟨s, hX⟩, h4⟩ := h
  have hX : WlX base w d m first A [] s := hX
  obtain ⟨g1, g2⟩ := sgE_all hX.2.1 hX.2.2.1 (by omega) (by have := hX.2.2.2.2.2.2.1; simp only [List.length_nil] at this; omega)
  have hf1 := hX.2.2.2.2.2.2.2.1
  have hDs : DsO base d A.length s (sgE first A) w := ⟨hX.1, by omega, g1, g2, ht, hb⟩
  have hlg : Logs s.fm first A := hX.2.1.logs
  have H1 := Lib.hid h1; have HDS := Lib.hid hDs; have HLG := Lib.hid hlg; have HSZ := Lib.hid hsz; have HBD := Lib.hid hbd; have HX := Lib.hid hX
  have c1 : w.cell? ⟨p, 1, none⟩ = some (.pointer (some ⟨d, 0, none⟩)) := h1.cell (k := 1) rfl
  clear h1 h2 hX hDs hlg h4 g1 g2 hsz hbd
  go_enter Tryd.func29, Tryd.ntmps29
  simp only [pt]
  go_wp2_with fail
  refine (pzero_any w H1.out).mono ?_
  rintro e w1 ⟨rfl, rfl⟩
  have hpl := H1.out.lt
  go_wp2_with fail
  refine (psegs_any p N first A w HDS.out HLG.out (by omega) H1.out).mono ?_
  rintro e w2 ⟨u2, rfl, hr2, hD2, hb2⟩
  obtain ⟨au, cu, rfl, -, -⟩ := row_view hr2
  have HR2 := Lib.hid hr2; have HD2 := Lib.hid hD2; have HB2 := Lib.hid hb2
  clear hr2 hD2 hb2 c1
  go_wp2_with fail
  go_loopg [3, 13] (A.length + 1) (fun g s3 s13 wr => ∃ i : Nat, s13 = .int .i64 i ∧ s3 = .int .i64 ((psz (A.take i) : Nat) : Int) ∧ i ≤ A.length ∧ A.length + 1 ≤ i + g ∧ Hid (wr.ownsRow 0 3 1 (.slice au A.length cu) A.length ((segN first A.length).flatMap (intE .i64))) ∧ Hid (DsO base d A.length s (sgE first A) wr) ∧ Hid (ButD base w wr))
  case atStart => exact ⟨0, rfl, rfl, by omega, by omega, HR2, HD2, HB2⟩
  case round =>
    obtain ⟨i, rfl, rfl, hi, hg, HR, HD, HB⟩ := hrel
    by_cases hlt : i < A.length
    · obtain ⟨y, hy⟩ : ∃ y, A[i]? = some y := ⟨_, List.getElem?_eq_getElem hlt⟩
      have hyb := HSZ.out y (List.mem_of_getElem? hy)
      have hps := psz_at hy
      have hbi := HBD.out i
      obtain ⟨au', cu', e, -, hat⟩ := row_view HR.out
      cases e
      obtain ⟨g2, rfl, -, hg2⟩ := hat i hlt
      rw [flat_ints, List.getElem?_map, segN_get _ _ _ hlt] at hg2
      obtain ⟨q, hq⟩ : ∃ q : Int, q = first + (i : Int) := ⟨_, rfl⟩
      rw [← hq] at hg2
      replace hg2 : wr.cell? ⟨g2, i, none⟩ = some (.int .i64 q) := hg2
      have hdat : datF s.fm q = y.b := by rw [hq]; exact dat_seg HLG.out hy
      have c1 : wr.cell? ⟨p, 1, none⟩ = some (.pointer (some ⟨d, 0, none⟩)) := (blkD H1.out (by decide) HB.out).cell (k := 1) rfl
      obtain ⟨t, ht⟩ : ∃ t, t = y.b := ⟨_, rfl⟩
      rw [← ht] at hyb hdat hps
      obtain ⟨z, hz⟩ : ∃ z, z = psz (A.take i) := ⟨_, rfl⟩
      rw [← hz] at hps hbi ⊢
      have HQ := Lib.hid hq; have HPS := Lib.hid hps; have HDT := Lib.hid hdat
      have hbz : z ≤ 900000000000 := Nat.le_trans hbi (Nat.mul_le_mul (show i ≤ 900 by omega) (Nat.le_refl 1000000000))
      clear hat hq hps hdat hy ht hz hbi
      go_wp2_with fail
      refine (tData wr q HD.out.obj).mono ?_
      rintro e w4 ⟨rfl, hD4, hb4⟩
      rw [HDT.out]
      have HD4 := Lib.hid (HD.out.turn hD4 hb4); have HB4 := Lib.hid (butD_tr HB.out hb4); have HR4 := Lib.hid (rowD HR.out int_off hb4)
      clear hD4 hb4 c1 hg2
      go_wp2
      go_roundg (gk - 1)
      case rel => exact ⟨i + 1, by go_num, by rw [HPS.out]; go_num, by omega, by omega, HR4, HD4, HB4⟩
      case measure => omega
    · have hq : i = A.length := by omega
      subst hq
      rw [List.take_length]
      obtain ⟨z, hz⟩ : ∃ z, z = psz A := ⟨_, rfl⟩
      rw [← hz]
      have HZ := Lib.hid hz
      clear hz
      go_wp2
      go_ret
      exact ⟨by rw [HZ.out]; rfl, H.out.turnD ⟨s, HD.out.obj, HX.out.2⟩ HB.out, HB.out⟩
/-- The files' bytes are G's. -/
def OnC (s : DkS) (first : Int) (G : List WSeg) : Prop := (∀ k, (s.fm k).isSome = (flW first G G k).isSome ∧ (getF s.fm k).1 = ((flW first G G k).getD mz).1) ∧ ∀ p ∈ s.ps, (s.fm p.1).isSome = true
theorem WSt.onC {s : DkS} (h : WSt s first G []) : OnC s first G := ⟨fun k => by (have := h.on k; unfold getF; rw [this]; exact ⟨rfl, rfl⟩), fun p hp => by rw [h.ps] at hp; cases hp⟩
theorem flW_end (G : List WSeg) (z : WSeg) (k : Int) : flW first (G ++ [z]) (G ++ [z]) k = if k = first + (G.length : Int) then some (z.b.data.toList, (z.b.data.toList.length : Int), true) else flW first G G k := by
  unfold flW
  by_cases h : first ≤ k
  · rw [if_pos h, if_pos h]
    by_cases hk : k = first + (G.length : Int)
    · rw [if_pos hk]
      have e : (k - first).toNat = G.length := by omega
      have e2 : (G ++ [z])[G.length]? = some z := by simp
      unfold bytA
      rw [e, e2]; rfl
    · rw [if_neg hk]
      have e2 : (G ++ [z])[(k - first).toNat]? = G[(k - first).toNat]? := by
        by_cases hl : (k - first).toNat < G.length
        · exact List.getElem?_append_left hl
        · rw [List.getElem?_eq_none (by simp; omega), List.getElem?_eq_none (by omega)]
      unfold bytA
      rw [e2]
  · rw [if_neg h, if_neg h, if_neg (by omega)]
theorem OnC.write {s : DkS} (h : OnC s first G) (z : WSeg) (hn : wrE (first + (G.length : Int)) = 0) : OnC (wrS s (first + (G.length : Int)) z.b) first (G ++ [z]) := by
  have h0 : (getF s.fm (first + (G.length : Int))).1 = [] := by
    rw [(h.1 _).2]; unfold flW; rw [if_pos (by omega), if_neg]
    · rfl
    · rw [List.getElem?_eq_none (by omega)]; decide
  unfold wrS; rw [if_pos hn]
  refine ⟨fun k => ?_, fun p hp => ?_⟩
  · show (putF s.fm _ _ k).isSome = _ ∧ (getF (putF s.fm _ _) k).1 = _
    rw [getF_put, flW_end]
    unfold putF
    by_cases hk : k = first + (G.length : Int)
    · rw [if_pos hk, if_pos hk, if_pos hk, h0]; exact ⟨rfl, rfl⟩
    · rw [if_neg hk, if_neg hk, if_neg hk]; exact h.1 k
  · show (putF s.fm _ _ p.1).isSome = true
    unfold putF
    split
    · rfl
    · rename_i hk
      have hp : p ∈ s.ps ++ [(first + (G.length : Int), (z.b.size : Int))] := hp
      rcases List.mem_append.1 hp with hp | hp
      · exact h.2 p hp
      · simp only [List.mem_singleton] at hp; subst hp; exact absurd rfl hk
theorem syn_some : ∀ (ps : List PcT) (fm : Int → Option FileM), (∀ p ∈ ps, (fm p.1).isSome = true) → ∀ k, (synF fm ps k).isSome = (fm k).isSome
  | [], fm, _, k => rfl
  | p :: r, fm, h, k => by
    have e : synF fm (p :: r) = synF (putF fm p.1 ((getF fm p.1).1, ((getF fm p.1).1.length : Int), true)) r := rfl
    have hput : ∀ k, (putF fm p.1 ((getF fm p.1).1, ((getF fm p.1).1.length : Int), true) k).isSome = (fm k).isSome := fun k => by
      unfold putF; split
      · rename_i hk; rw [hk, h p (List.mem_cons_self ..)]; rfl
      · rfl
    rw [e, syn_some r _ (fun q hq => by rw [hput]; exact h q (List.mem_cons_of_mem _ hq)), hput]
theorem OnC.sync {s : DkS} {m : Nat} (h : OnC s first G) (hI : DkI s m) (hG : OkA G) : WSt (synS s) first G [] := by
  obtain ⟨h1, h2, h3, h4⟩ := hI.sync
  refine ⟨fun k => ?_, rfl, hG, fun x hx => by cases hx⟩
  show (synS s).fm k = flW first G G k
  have hs : ((synS s).fm k).isSome = (flW first G G k).isSome := by rw [← (h.1 k).1]; exact syn_some s.ps s.fm h.2 k
  have hc : (getF (synS s).fm k).1 = ((flW first G G k).getD mz).1 := by rw [h2 k]; exact (h.1 k).2
  have hz := h3 k; rw [← h2 k] at hz
  have hf := h4 k
  cases hA : (synS s).fm k with
  | none =>
    rw [hA] at hs
    cases hB : flW first G G k with
    | none => rfl
    | some f => rw [hB] at hs; cases hs
  | some g =>
    rw [hA] at hs hf
    have e : getF (synS s).fm k = g := by unfold getF; rw [hA]; rfl
    rw [e] at hc hz hf
    cases hB : flW first G G k with
    | none => rw [hB] at hs; cases hs
    | some f =>
      rw [hB] at hc
      have hc : g.1 = f.1 := hc
      have hfl : f.2 = ((f.1.length : Int), true) := by
        unfold flW at hB
        by_cases h1 : first ≤ k
        · rw [if_pos h1] at hB
          by_cases h2 : (G[(k - first).toNat]?).isSome = true
          · rw [if_pos h2] at hB; cases hB; show (_, _) = _; rw [h2]
          · rw [if_neg h2] at hB; cases hB
        · rw [if_neg h1] at hB; cases hB
      have hg : g.2 = ((g.1.length : Int), true) := Prod.ext hz (hf rfl)
      have : g = f := Prod.ext hc (by rw [hg, hfl, hc])
      rw [this]
/-- A disk in which files are written behind a log's, one after the other. -/
def TrO (base : Zn) (w : World) (d m : Nat) (first : Int) (G : List WSeg) : Prop :=
  ∃ s, DObj base w d (G.length) s ∧ OnC s first G ∧ DkI s m ∧ 0 ≤ s.boots ∧ s.boots ≤ (m : Int) + 1 ∧ G.length ≤ m ∧ 1 ≤ first ∧ first ≤ 1000000000
theorem OnC.keys {s : DkS} (h : OnC s first G) : ∀ k, (s.fm k).isSome = true → k ∈ segN first G.length := fun k hk => by
  rw [(h.1 k).1] at hk; unfold flW at hk
  rw [segN_mem]
  by_cases hl : first ≤ k
  · rw [if_pos hl] at hk
    by_cases hs : (G[(k - first).toNat]?).isSome = true
    · have := (List.getElem?_eq_some_iff.1 (Option.isSome_iff_exists.1 hs).choose_spec).1; omega
    · rw [if_neg hs] at hk; cases hk
  · rw [if_neg hl] at hk; cases hk
theorem WlO.tr (h : WlO base w d m first G []) : TrO base w d m first G := by
  obtain ⟨s, h1, h2, h3, h4, h5, h6, h7, h8, h9⟩ := h
  exact ⟨s, h1, h2.onC, h3, h4, h5, by simpa using h6, h8, h9⟩
theorem trWrite (w : World) (z : WSeg) (h : TrO base w d m first G) (hm : m ≤ 800) (hz : z.b.size ≤ 1000000) (hf : first + (m : Int) ≤ 1000000000) : Calls Tryd.prog 28 #[pt d 0, .int .i64 (first + (G.length : Int)), .string z.b] w fun e w' => e = .returned (.int .i64 0) ∧ TrO base w' d (m + 1) first (G ++ [z]) ∧ ButD base w w' := by
  obtain ⟨s, h1, h2, h3, h4, h5, h6, h8, h9⟩ := h
  have hw : wrE (first + (G.length : Int)) = 0 := by unfold wrE; rw [if_neg]; omega
  refine (tWrite w (first + (G.length : Int)) z.b h1 (h3.hsz (by omega) _ (by omega)) (h3.hpl (by omega))).mono ?_
  rintro e x ⟨k1, k2, k3⟩
  rw [hw] at k1
  have h2' := h2.write z hw
  have hk := k2.tight h2'.keys
  rw [segN_len] at hk
  refine ⟨k1, ⟨_, hk, h2', h3.write _ _ (by omega), ?_, ?_, by simp; omega, h8, h9⟩, k3⟩
  · unfold wrS; split <;> exact h4
  · have : (wrS s (first + (G.length : Int)) z.b).boots = s.boots := by unfold wrS; split <;> rfl
    rw [this]; omega
theorem trSync (w : World) (h : TrO base w d m first G) (hm : m ≤ 900) (hG : OkA G) (hT : (txtA G).length ≤ m) : Calls Tryd.prog 13 #[pt d 0] w fun e w' => ∃ k : Int, e = .returned (.int .i64 k) ∧ WlO base w' d (m + 1) first G [] ∧ ButD base w w' := by
  obtain ⟨s, h1, h2, h3, h4, h5, h6, h8, h9⟩ := h
  refine (tSync w h1 (h3.hsb hm)).mono ?_
  rintro e x ⟨k1, k2, k3⟩
  have h2' := h2.sync h3 hG
  have hk := k2.tight (h2'.on.keys)
  rw [segN_len] at hk
  exact ⟨_, k1, ⟨_, hk, h2', h3.sync.1.up (Nat.le_succ m), h4, by show s.boots ≤ ((m + 1 : Nat) : Int) + 1; omega, by simp; omega, by simp; omega, h8, h9⟩, k3⟩
end
end Go.Proofs.YtfiplhnplmadmaaDoor

/- Objects with a footprint: what holds of them depends on the blocks in S alone; a call turns S, and what it makes joins it. Conditions: none. -/
namespace Go.Proofs.YtfiplhnplmadmaaDoor
open Go.RowKit Go.PlainAid
set_option linter.unusedVariables false

/-- S' holds what S held, and what was made since; nothing but S was turned. -/
structure Grew (S S' : Nat → Prop) (w x : World) : Prop where
  sub : ∀ q, S' q → S q ∨ w.heap.size ≤ q
  but : But S w x
section
variable {S S' D : Nat → Prop} {n N : Nat} {w x : World} {v u : Value} {T e : TypeId} {cs : Array Value} {B sz k : Nat} {xs : List Value}
theorem hbL {w0 : World} (h : Below w0.heap.size w0 w) (hlo : ∀ q, S q → w0.heap.size ≤ q) (hb : But S w x) : Below w0.heap.size w0 x := below_but h hb h.size (fun i _ h => hlo i h)
theorem Grew.lo {n0 : Nat} (h : Grew S S' w x) (hlo : ∀ q, S q → n0 ≤ q) (hn : n0 ≤ w.heap.size) : ∀ q, S' q → n0 ≤ q := fun q hq => by
  rcases h.sub q hq with k | k
  · exact hlo q k
  · omega
theorem Grew.off (h : Grew S S' w x) (hN : ¬ S N) (hl : N < w.heap.size) : ¬ S' N := fun hq => by
  rcases h.sub N hq with k | k
  · exact hN k
  · omega
theorem Grew.offR (h : Grew S S' w x) (hr : w.ownsRow B e sz v k xs) (hv : ∀ i, v.ownBlock = some i → ¬ S i) : ∀ i, v.ownBlock = some i → ¬ S' i := fun i hi => h.off (hv i hi) (hr.lt i hi).2
/-- Two objects that have no block in common go on so, where one is turned. -/
theorem Grew.ap (h : Grew S S' w x) (ha : ∀ q, S q → D q → False) (hD : ∀ q, D q → q < w.heap.size) : ∀ q, S' q → D q → False := fun q h1 h2 => by
  rcases h.sub q h1 with k | k
  · exact ha q k h2
  · have := hD q h2; omega
theorem ap_symm (ha : ∀ q, S q → D q → False) : ∀ q, D q → S q → False := fun q h1 h2 => ha q h2 h1
theorem offR_lo (hlo : ∀ q, S q → n ≤ q) (hu : ∀ i, v.ownBlock = some i → i < n) : ∀ i, v.ownBlock = some i → ¬ S i := fun i hi hq => by have := hlo i hq; have := hu i hi; omega
theorem offR_row (hS : ∀ q, S q → q < n) (hr : x.ownsRow B e sz v k xs) (hB : n ≤ B) : ∀ i, v.ownBlock = some i → ¬ S i := fun i hi hq => by have := hS i hq; have := (hr.lt i hi).1; omega
theorem row_sameL (h : w.ownsRow B e sz v k xs) (hk : ∀ i, v.ownBlock = some i → x.heap[i]? = w.heap[i]?) : x.ownsRow B e sz v k xs := by
  refine ⟨h.1, ?_⟩
  rcases h.2 with h1 | ⟨g, c, cur, rfl, hg, hh, h3⟩
  · exact .inl h1
  · exact .inr ⟨g, c, cur, rfl, hg, by rw [hk g rfl]; exact hh, h3⟩
theorem own_butS (h : w.ownsRow B e sz v k xs) (hb : But S w x) (hn : ∀ i, v.ownBlock = some i → ¬ S i) : x.ownsRow B e sz v k xs :=
  row_sameL h fun i hi => hb.block i (h.lt i hi).2 (hn i hi)
end
end Go.Proofs.YtfiplhnplmadmaaDoor

/- Disks, logs, points as objects with a footprint; the calls on them. Conditions: at most 800 calls. -/
namespace Go.Proofs.YtfiplhnplmadmaaDoor
open Go.RowKit Go.PlainAid Go.Shelf
set_option linter.unusedVariables false
def Fp (S : Nat → Prop) (w : World) : Prop := ∀ k, S k → k < w.heap.size
/-- The types of what a disk, a log, a point is made of. -/
def TyF (w : World) (k : Nat) : Prop := TyS w k ∨ ∃ cs T fr, w.heap[k]? = some (.cells cs T fr) ∧ (T = 61 ∨ T = 41)
theorem TyF.lt {w : World} {k : Nat} (h : TyF w k) : k < w.heap.size := by
  rcases h with (⟨cs, T, fr, h1, _⟩ | ⟨es, cl, h1⟩) | ⟨cs, T, fr, h1, _⟩ <;> exact (Array.getElem?_eq_some_iff.1 h1).1
def S1 (S : Nat → Prop) (w x : World) : Nat → Prop := fun k => (S k ∨ w.heap.size ≤ k) ∧ TyF x k
theorem fp_1 {S : Nat → Prop} {w x : World} : Fp (S1 S w x) x := fun k h => h.2.lt
/-- A row of another type is none of the object's. -/
theorem off_S1 {S : Nat → Prop} {w x : World} {B sz k : Nat} {e : TypeId} {v : Value} {xs : List Value} (hr : x.ownsRow B e sz v k xs) (hT : offD e) (hP : e ≠ 61) (hW : e ≠ 41) : ∀ i, v.ownBlock = some i → ¬ S1 S w x i := fun i hi h => by
  obtain ⟨cs, hc⟩ := rowblk hr hi
  rcases h.2 with h1 | ⟨cs', T, fr, h1, h2⟩
  · exact not_ty hc hT h1
  · rw [hc] at h1; cases h1
    rcases h2 with h2 | h2
    · exact hP h2
    · exact hW h2
theorem grew_of {S : Nat → Prop} {w x : World} (hb : ButD (Zn.fp S w.heap.size) w x) : Grew S (S1 S w x) w x :=
  ⟨fun q h => h.1, hb.mono fun k hk h => by rcases h.1 with h1 | h1; exact h1; omega⟩
theorem DObj.move {Z Z' : Zn} {w x : World} {d c : Nat} {s : DkS} (h : DObj Z w d c s) (hs : w.heap.size ≤ x.heap.size) (hk : ∀ k, k < w.heap.size → Z.P k → x.heap[k]? = w.heap[k]?) (hz : ∀ k, TyF w k → Z.P k → Z'.P k) (ht : Z'.top ≤ x.heap.size) : DObj Z' x d c s := by
  have h0 := h.keepZ hs (fun k hk2 => hk k (by rcases hk2.2 with ⟨cs, T, fr, h1, _⟩ | ⟨es, cl, h1⟩ <;> exact (Array.getElem?_eq_some_iff.1 h1).1) hk2.1)
  obtain ⟨M, pv, g, c', hc, h⟩ := h
  have up : ∀ {k : Nat}, Z.P k ∨ Z.top ≤ k → Z.P k := fun q => by rcases q with q | q; exact q; exact Z.up _ q
  have key : ∀ {B sz k : Nat} {e : TypeId} {v : Value} {xs : List Value}, w.ownsRow B e sz v k xs → (e = 66 ∨ e = 74 ∨ e = 5) → InS Z.P Z.top v → InS Z'.P Z'.top v := fun hr he hi i hb' => .inl (hz i (by obtain ⟨cs, hc⟩ := rowblk hr hb'; exact .inl (.inl ⟨cs, _, _, hc, he⟩)) (up (hi i hb')))
  have sm : ∀ {B sz k : Nat} {e : TypeId} {v : Value} {xs : List Value}, w.ownsRow B e sz v k xs → InS Z.P Z.top v → x.ownsRow B e sz v k xs := fun hr hi => row_same hr hs fun i hi' => hk i (hr.lt i hi').2 (up (hi i hi'))
  have hMt : TyF w M := by
    obtain ⟨l, ⟨es, cl, h1, _⟩, _⟩ := h.map
    exact .inl (.inr ⟨es, cl, h1⟩)
  have hM := hMt.lt
  refine ⟨M, pv, g, c', ⟨hc.1, ht⟩, ⟨?_, ?_, sm h.row h.sp, ⟨fun k f hf => ⟨sm (h.fam.1 k f hf).1 (h.fam.1 k f hf).2, key (h.fam.1 k f hf).1 (.inr (.inr rfl)) (h.fam.1 k f hf).2⟩, h.fam.2⟩, .inl (hz d (.inl (.inl ⟨_, _, _, h.blk, .inl rfl⟩)) (up h.sd)), .inl (hz M hMt (up h.sM)), key h.row (.inr (.inl rfl)) h.sp, h.rel⟩⟩
  · have hb := h.blk
    have hl := hb.lt
    unfold Blk at hb ⊢
    rw [hk d hl (up h.sd)]; exact hb
  · obtain ⟨l, ⟨es, cl, h1, h2⟩, h3⟩ := h.map
    exact ⟨l, ⟨es, cl, by rw [hk M hM (up h.sM)]; exact h1, h2⟩, h3⟩
theorem blk_move {Z : Zn} {w x : World} {N : Nat} {T : TypeId} {cs : Array Value} (h : Blk w N T cs) (hk : ∀ k, k < w.heap.size → Z.P k → x.heap[k]? = w.heap[k]?) (hN : Z.P N) : Blk x N T cs := by
  have hl := h.lt
  unfold Blk at h ⊢
  rw [hk N hl hN]; exact h
section
variable {Z Z' : Zn} {w x : World} {d m p sure cp : Nat} {first : Int} {A G : List WSeg} {xs L : List ByteArray} {S D : Nat → Prop}
abbrev MvH (Z Z' : Zn) (w x : World) : Prop := w.heap.size ≤ x.heap.size ∧ (∀ k, k < w.heap.size → Z.P k → x.heap[k]? = w.heap[k]?) ∧ (∀ k, TyF w k → Z.P k → Z'.P k) ∧ Z'.top ≤ x.heap.size
theorem tyP {cs : Array Value} (h : Blk w p 61 cs) : TyF w p := .inr ⟨_, _, _, h, .inl rfl⟩
theorem tyW {cs : Array Value} (h : Blk w p 41 cs) : TyF w p := .inr ⟨_, _, _, h, .inr rfl⟩
theorem WlO.move (h : WlO Z w d m first A xs) (hm : MvH Z Z' w x) : WlO Z' x d m first A xs := by obtain ⟨s, h1, h2⟩ := h; exact ⟨s, h1.move hm.1 hm.2.1 hm.2.2.1 hm.2.2.2, h2⟩
theorem TrO.move (h : TrO Z w d m first G) (hm : MvH Z Z' w x) : TrO Z' x d m first G := by obtain ⟨s, h1, h2⟩ := h; exact ⟨s, h1.move hm.1 hm.2.1 hm.2.2.1 hm.2.2.2, h2⟩
theorem PtO.move (h : PtO Z w d m p L sure cp A) (hm : MvH Z Z' w x) : PtO Z' x d m p L sure cp A := by
  obtain ⟨first, xs, N, h1, h2, h3, h4, h5, h6, h7, h8⟩ := h
  exact ⟨first, xs, N, blk_move h1 hm.2.1 h8.2.1, blk_move h2 hm.2.1 h8.2.2, h3.move hm, h4, h5, h6, h7, h8.1, hm.2.2.1 p (tyP h1) h8.2.1, hm.2.2.1 N (tyW h2) h8.2.2⟩
theorem PtX.move (h : PtX Z w d m p L cp A first) (hm : MvH Z Z' w x) : PtX Z' x d m p L cp A first := by
  obtain ⟨N, h1, h2, h3, h4, h5, h6, h7, h8⟩ := h
  exact ⟨N, blk_move h1 hm.2.1 h7, blk_move h2 hm.2.1 h8, h3.move hm, h4, h5, h6, hm.2.2.1 p (tyP h1) h7, hm.2.2.1 N (tyW h2) h8⟩
theorem mv_1 (hs : w.heap.size ≤ x.heap.size) : MvH (Zn.fp S w.heap.size) (Zn.fp (S1 S w x) x.heap.size) x x := ⟨Nat.le_refl _, fun _ _ _ => rfl, fun k ht h => .inl ⟨h, ht⟩, Nat.le_refl _⟩
theorem mv_gr {row : Option Nat} (hg : w.grownBy x row) (hr : ∀ k, row = some k → ¬ S k) : MvH (Zn.fp S w.heap.size) (Zn.fp S x.heap.size) w x :=
  ⟨hg.size, fun k hk h => hg.block k hk (fun e => hr k e.symm (by rcases h with h | h; exact h; omega)), fun k ht h => by have hk := ht.lt; rcases h with h | h; exact .inl h; omega, Nat.le_refl _⟩
theorem mv_but (hb : But D w x) (hd : ∀ q, S q → D q → False) : MvH (Zn.fp S w.heap.size) (Zn.fp S x.heap.size) w x :=
  ⟨hb.size, fun k hk h => hb.block k hk (fun e => hd k (by rcases h with h | h; exact h; omega) e), fun k ht h => by have hk := ht.lt; rcases h with h | h; exact .inl h; omega, Nat.le_refl _⟩
def WlF (S : Nat → Prop) (w : World) (d m : Nat) (first : Int) (A : List WSeg) (xs : List ByteArray) : Prop := Fp S w ∧ WlO (Zn.fp S w.heap.size) w d m first A xs
theorem WlF.ofS (h : WlF S w d m first A xs) : ∀ q, S q → q < w.heap.size := h.1
theorem WlF.gr {row : Option Nat} (h : WlF S w d m first A xs) (hg : w.grownBy x row) (hr : ∀ k, row = some k → ¬ S k) : WlF S x d m first A xs := ⟨fun q hq => Nat.lt_of_lt_of_le (h.1 q hq) hg.size, h.2.move (mv_gr hg hr)⟩
theorem WlF.but (h : WlF S w d m first A xs) (hb : But D w x) (hd : ∀ q, S q → D q → False) : WlF S x d m first A xs := ⟨fun q hq => Nat.lt_of_lt_of_le (h.1 q hq) hb.size, h.2.move (mv_but hb hd)⟩
theorem WlF.of1 (h : WlO (Zn.fp S w.heap.size) x d m first A xs) (hs : w.heap.size ≤ x.heap.size) : WlF (S1 S w x) x d m first A xs := ⟨fp_1, h.move (mv_1 hs)⟩
def TrF (S : Nat → Prop) (w : World) (d m : Nat) (first : Int) (G : List WSeg) : Prop := Fp S w ∧ TrO (Zn.fp S w.heap.size) w d m first G
theorem TrF.ofS (h : TrF S w d m first G) : ∀ q, S q → q < w.heap.size := h.1
theorem TrF.gr {row : Option Nat} (h : TrF S w d m first G) (hg : w.grownBy x row) (hr : ∀ k, row = some k → ¬ S k) : TrF S x d m first G := ⟨fun q hq => Nat.lt_of_lt_of_le (h.1 q hq) hg.size, h.2.move (mv_gr hg hr)⟩
theorem TrF.but (h : TrF S w d m first G) (hb : But D w x) (hd : ∀ q, S q → D q → False) : TrF S x d m first G := ⟨fun q hq => Nat.lt_of_lt_of_le (h.1 q hq) hb.size, h.2.move (mv_but hb hd)⟩
theorem TrF.of1 (h : TrO (Zn.fp S w.heap.size) x d m first G) (hs : w.heap.size ≤ x.heap.size) : TrF (S1 S w x) x d m first G := ⟨fp_1, h.move (mv_1 hs)⟩
def PtF (S : Nat → Prop) (w : World) (d m p : Nat) (L : List ByteArray) (sure cp : Nat) (A : List WSeg) : Prop := Fp S w ∧ PtO (Zn.fp S w.heap.size) w d m p L sure cp A
theorem PtF.ofS (h : PtF S w d m p L sure cp A) : ∀ q, S q → q < w.heap.size := h.1
theorem PtF.gr {row : Option Nat} (h : PtF S w d m p L sure cp A) (hg : w.grownBy x row) (hr : ∀ k, row = some k → ¬ S k) : PtF S x d m p L sure cp A := ⟨fun q hq => Nat.lt_of_lt_of_le (h.1 q hq) hg.size, h.2.move (mv_gr hg hr)⟩
theorem PtF.but (h : PtF S w d m p L sure cp A) (hb : But D w x) (hd : ∀ q, S q → D q → False) : PtF S x d m p L sure cp A := ⟨fun q hq => Nat.lt_of_lt_of_le (h.1 q hq) hb.size, h.2.move (mv_but hb hd)⟩
theorem PtF.of1 (h : PtO (Zn.fp S w.heap.size) x d m p L sure cp A) (hs : w.heap.size ≤ x.heap.size) : PtF (S1 S w x) x d m p L sure cp A := ⟨fp_1, h.move (mv_1 hs)⟩
def PxF (S : Nat → Prop) (w : World) (d m p : Nat) (L : List ByteArray) (cp : Nat) (A : List WSeg) (first : Int) : Prop := Fp S w ∧ PtX (Zn.fp S w.heap.size) w d m p L cp A first
theorem PxF.ofS (h : PxF S w d m p L cp A first) : ∀ q, S q → q < w.heap.size := h.1
theorem PxF.gr {row : Option Nat} (h : PxF S w d m p L cp A first) (hg : w.grownBy x row) (hr : ∀ k, row = some k → ¬ S k) : PxF S x d m p L cp A first := ⟨fun q hq => Nat.lt_of_lt_of_le (h.1 q hq) hg.size, h.2.move (mv_gr hg hr)⟩
theorem PxF.but (h : PxF S w d m p L cp A first) (hb : But D w x) (hd : ∀ q, S q → D q → False) : PxF S x d m p L cp A first := ⟨fun q hq => Nat.lt_of_lt_of_le (h.1 q hq) hb.size, h.2.move (mv_but hb hd)⟩
theorem PxF.of1 (h : PtX (Zn.fp S w.heap.size) x d m p L cp A first) (hs : w.heap.size ≤ x.heap.size) : PxF (S1 S w x) x d m p L cp A first := ⟨fp_1, h.move (mv_1 hs)⟩
theorem fp_no0 (hl : ∀ q, S q → 0 < q) (ht : Tab w) : ¬ (Zn.fp S w.heap.size).P 0 := by
  have := tab_pos ht
  rintro (h | h)
  · exact absurd (hl 0 h) (by omega)
  · have h : w.heap.size ≤ 0 := h
    omega
theorem WlF.tr (h : WlF S w d m first A []) : TrF S w d m first A := ⟨h.1, h.2.tr⟩
theorem PxF.wl (h : PxF S w d m p L cp A first) : WlF S w d m first A [] := ⟨h.1, h.2.wl.1⟩
theorem PxF.f1 (h : PxF S w d m p L cp A first) : first ≤ 1 + (m : Int) * 1000 := h.2.wl.2
theorem PtF.toX (h : PtF S w d m p L L.length cp A) : ∃ first, PxF S w d m p L cp A first := by obtain ⟨f, h2⟩ := h.2.toX; exact ⟨f, h.1, h2⟩
/-- A disk is made. -/
theorem fNew (w : World) (first : Int) (hf : 1 ≤ first ∧ first ≤ 1000000000) : Calls Tryd.prog 10 #[] w fun e w' => ∃ (N : Nat) (S : Nat → Prop), e = .returned (pt N 0) ∧ WlF S w' N 0 first [] [] ∧ (∀ q, S q → w.heap.size ≤ q) ∧ Below w.heap.size w w' :=
  (wlNew (Zn.fp (fun _ => False) w.heap.size) first w (Nat.le_refl _) hf).mono fun e x ⟨N, h1, h2, h3⟩ => ⟨N, S1 (fun _ => False) w x, h1, WlF.of1 h2 h3.size, fun q hq => by rcases hq.1 with h | h; exact h.elim; exact h, h3⟩
theorem fpNew (w : World) (h : WlF S w d 0 1 [] []) (hl : ∀ q, S q → 0 < q) (ht : Tab w) : Calls Tryd.prog 20 #[pt d 0] w fun e w' => ∃ (p : Nat) (S' : Nat → Prop), e = .returned (.tuple #[pt p 0, .int .i64 0]) ∧ PtF S' w' d 1 p [] 0 0 ([hdP 0].foldl appA []) ∧ Grew S S' w w' :=
  (ptNew w h.2 ht (fp_no0 hl ht)).mono fun e x ⟨p, h1, h2, h3⟩ => ⟨p, _, h1, PtF.of1 h2 h3.size, grew_of h3⟩
theorem fpSave (v : Value) (l : List ByteArray) (w : World) (h : PtF S w d m p L sure cp A) (hl : ∀ q, S q → 0 < q) (ht : Tab w) (hs : ∀ X, But S w X → SliceOf strE 1 X v l) (hlm : l.length + m ≤ 500) (hsz : ∀ z ∈ l, z.size ≤ 60000) : Calls Tryd.prog 25 #[pt p 0, v] w fun e w' => ∃ S' : Nat → Prop, e = .returned (.int .i64 0) ∧ PtF S' w' d (m + l.length + 1) p l l.length l.length ((hdP l.length :: l.map tT).foldl appA []) ∧ Grew S S' w w' := by
  have hp : S p := by
    have h1 := h.2.lo
    obtain ⟨cs, hb⟩ := h.2.blk
    have := hb.lt
    rcases h1 with h1 | h1
    · exact h1
    · have h1 : w.heap.size ≤ p := h1
      omega
  refine (ptSave v l w h.2 (fun X hX => hs X (grew_of hX).but) hlm hsz ht (fp_no0 hl ht)).mono ?_
  rintro e x ⟨h1, h2, h3⟩
  refine ⟨S1 S w x, h1, PtF.of1 h2 h3.size, ⟨fun q h => h.1, h3.mono fun k hk hq => ?_⟩⟩
  rcases hq with hq | hq
  · rcases hq.1 with h1 | h1
    · exact h1
    · have h1 : w.heap.size ≤ k := h1
      omega
  · subst hq; exact hp
theorem fwFiles (w : World) (h : PxF S w d m p L cp A first) (hm : m ≤ 900) : Calls Tryd.prog 26 #[pt d 0] w fun e w' => ∃ (u : Value) (S' : Nat → Prop), e = .returned u ∧ PxF S' w' d m p L cp A first ∧ w'.ownsRow w.heap.size 3 1 u (segN first A.length).length ((segN first A.length).flatMap (intE .i64)) ∧ (∀ i, u.ownBlock = some i → ¬ S' i) ∧ Grew S S' w w' :=
  (wlFiles w h.2.wl.1 hm).mono fun e x ⟨u, h1, h2, h3, h4⟩ => ⟨u, _, h1, PxF.of1 (h.2.turnD h3 h4) h4.size, by rw [segN_len]; exact h2, off_S1 h2 (by decide) (by decide) (by decide), grew_of h4⟩
theorem fxData (w : World) (n : Int) (i : Nat) (y : WSeg) (h : PxF S w d m p L cp A first) (hy : A[i]? = some y) (hn : n = first + (i : Int)) : Calls Tryd.prog 27 #[pt d 0, .int .i64 n] w fun e w' => ∃ S' : Nat → Prop, e = .returned (.string y.b) ∧ PxF S' w' d m p L cp A first ∧ Grew S S' w w' := by
  subst hn
  exact (wlData w h.2.wl.1 i hy).mono fun e x ⟨h1, h3, h4⟩ => ⟨_, h1, PxF.of1 (h.2.turnD h3 h4) h4.size, grew_of h4⟩
theorem fxSize (w : World) (h : PxF S w d m p L cp A first) (hm : m ≤ 900) (hl : ∀ q, S q → 0 < q) (ht : Tab w) : Calls Tryd.prog 29 #[pt p 0] w fun e w' => ∃ S' : Nat → Prop, e = .returned (.int .i64 ((psz A : Nat) : Int)) ∧ PxF S' w' d m p L cp A first ∧ Grew S S' w w' :=
  (ptSize w h.2 hm ht (fp_no0 hl ht)).mono fun e x ⟨h1, h3, h4⟩ => ⟨_, h1, PxF.of1 h3 h4.size, grew_of h4⟩
theorem ftWrite (w : World) (n : Int) (t : ByteArray) (z : WSeg) (h : TrF S w d m first G) (ht : t = z.b) (hn : n = first + (G.length : Int)) (hm : m ≤ 800) (hz : t.size ≤ 1000000) (hf : first + (m : Int) ≤ 1000000000) : Calls Tryd.prog 28 #[pt d 0, .int .i64 n, .string t] w fun e w' => ∃ S' : Nat → Prop, e = .returned (.int .i64 0) ∧ TrF S' w' d (m + 1) first (G ++ [z]) ∧ Grew S S' w w' := by
  subst ht hn
  exact (trWrite w z h.2 hm hz hf).mono fun e x ⟨h1, h2, h3⟩ => ⟨_, h1, TrF.of1 h2 h3.size, grew_of h3⟩
theorem ftSync (w : World) (h : TrF S w d m first G) (hm : m ≤ 900) (hG : OkA G) (hT : (txtA G).length ≤ m) : Calls Tryd.prog 13 #[pt d 0] w fun e w' => ∃ (k : Int) (S' : Nat → Prop), e = .returned (.int .i64 k) ∧ WlF S' w' d (m + 1) first G [] ∧ Grew S S' w w' :=
  (trSync w h.2 hm hG hT).mono fun e x ⟨k, h1, h2, h3⟩ => ⟨k, _, h1, WlF.of1 h2 h3.size, grew_of h3⟩
theorem fwOpen {E : List WSeg} {l : List ByteArray} {k0 k1 : Nat} (w : World) (h : WlF S w d m first G []) (hl : ∀ q, S q → 0 < q) (ht : Tab w) (hO : OpenR first G k0 k1) (hE : E = (G.take k1).drop k0) (hT : txtA E = hdP cp :: l.map tT) (hc : cp ≤ l.length) (hm : m ≤ 800) (hf : first + (m : Int) ≤ 1 + (m : Int) * 1000) : Calls Tryd.prog 24 #[pt d 0] w fun e w' => ∃ (p : Nat) (S' : Nat → Prop), e = .returned (.tuple #[pt p 0, .int .i64 0]) ∧ PtF S' w' d m p l l.length cp E ∧ Grew S S' w w' :=
  (ptOpenG w h.2 hO hE hT hc hm hf ht (fp_no0 hl ht)).mono fun e x ⟨p, h1, h2, h3⟩ => ⟨p, _, h1, PtF.of1 h2 h3.size, grew_of h3⟩
theorem fpTexts (w : World) (h : PtF S w d m p L sure cp A) (hm : m ≤ 900) (hl : ∀ q, S q → 0 < q) (ht : Tab w) : Calls Tryd.prog 23 #[pt p 0] w fun e w' => ∃ (u : Value) (S' : Nat → Prop), e = .returned u ∧ PtF S' w' d m p L sure cp A ∧ w'.ownsRow w.heap.size 9 1 u L.length (L.flatMap strE) ∧ (∀ i, u.ownBlock = some i → ¬ S' i) ∧ Grew S S' w w' :=
  (ptTexts w h.2 hm ht (fp_no0 hl ht)).mono fun e x ⟨u, h1, h2, h3, h4⟩ => ⟨u, _, h1, PtF.of1 h3 h4.size, h2, off_S1 h2 (by decide) (by decide) (by decide), grew_of h4⟩
end
end Go.Proofs.YtfiplhnplmadmaaDoor

/- Package point: a small log is one file. Conditions: none. -/
namespace Go.Proofs.YtfiplhnplmadmaaDoor
open Go.RowKit Go.PlainAid
set_option linter.unusedVariables false
theorem full_no {T : List ByteArray} (h : (catF T).size < 256) : fullS ⟨T, ⟨#[]⟩⟩ = false := by
  unfold fullS WSeg.b
  rw [bapp_nil, decide_eq_false (by show ¬ 256 ≤ (catF T).size; omega)]; rfl
theorem app_one {T : List ByteArray} (h : (catF T).size < 256) (x : ByteArray) : appA [⟨T, ⟨#[]⟩⟩] x = [⟨T ++ [x], ⟨#[]⟩⟩] := by
  have ha : atA [⟨T, ⟨#[]⟩⟩] = 0 := by unfold atA; simp [full_no h]
  unfold appA putA; rw [ha]; rfl
theorem fr_sz {x : ByteArray} (h : x.size ≤ 20) : (frameB x).size ≤ 60 := by
  have h1 := numB_size x
  have h2 : (frameB x).size = (numB x).size + 4 + x.size := by unfold frameB; rw [bsz_app, bsz_app]; rfl
  omega
theorem aw13_len (a b c d : ByteArray) (ha : a.size ≤ 20) (hb : b.size ≤ 20) (hc : c.size ≤ 20) : ([d].foldl appA ([a, b, c].foldl appA [])).length = 1 := by
  have h1 := fr_sz ha; have h2 := fr_sz hb; have h3 := fr_sz hc
  have s1 : (catF [a]).size < 256 := by rw [show catF [a] = catF [] ++ frameB a from by rw [← catF_snoc]; rfl, bsz_app]; show 0 + _ < 256; omega
  have s2 : (catF [a, b]).size < 256 := by
    rw [show catF [a, b] = (catF [] ++ frameB a) ++ frameB b from by rw [← catF_snoc, ← catF_snoc]; rfl, bsz_app, bsz_app]; show 0 + _ + _ < 256; omega
  have s3 : (catF [a, b, c]).size < 256 := by
    rw [show catF [a, b, c] = ((catF [] ++ frameB a) ++ frameB b) ++ frameB c from by rw [← catF_snoc, ← catF_snoc, ← catF_snoc]; rfl, bsz_app, bsz_app, bsz_app]; show 0 + _ + _ + _ < 256; omega
  have e0 : appA [] a = [⟨[a], ⟨#[]⟩⟩] := rfl
  rw [List.foldl_cons, List.foldl_nil, List.foldl_cons, List.foldl_cons, List.foldl_cons, List.foldl_nil, e0, app_one s1, show [a] ++ [b] = [a, b] from rfl, app_one s2, show [a, b] ++ [c] = [a, b, c] from rfl, app_one s3]
  rfl
end Go.Proofs.YtfiplhnplmadmaaDoor

/- catenalaw13: acts, Same, awake. Conditions: a laid table. -/
namespace Go.Proofs.YtfiplhnplmadmaaDoor
open Go.RowKit Go.PlainAid
set_option linter.unusedVariables false
set_option linter.unusedSimpArgs false


/-- A call of stage 13. -/
structure PActT where
  k : Int
  s : ByteArray
  lv : Value
  l : List ByteArray
  n : Int
instance : Inhabited PActT := ⟨⟨0, ⟨#[]⟩, .slice none 0 0, [], 0⟩⟩
def pactE (a : PActT) : List Value := [.int .i64 a.k, .string a.s, a.lv, .int .i64 a.n]
theorem pactE_len (a : PActT) : (pactE a).length = 4 := rfl
def lenAt (l : List PActT) (i : Nat) : Nat := ((l[i]?).map (·.l.length)).getD 0
theorem lenAt_eq {l : List PActT} {i : Nat} {y : PActT} (h : l[i]? = some y) : lenAt l i = y.l.length := by unfold lenAt; rw [h]; rfl
structure PActS (w : World) (a : PActT) : Prop where
  sl : SliceOf strE 1 w a.lv a.l

set_option maxRecDepth 100000 in
theorem sameStr13_any (u : Value) (v : Value) (l : List ByteArray) (w : World) (hu : SliceOf strE 1 w u l) (hv : SliceOf strE 1 w v l) :
    Calls Tryd.prog 15 #[u, v] w fun e w' => e = .returned (.bool true) ∧ Below w.heap.size w w' := by
 have hB0 := Below.refl w.heap.size w;have hl_hu := sl_len hu;have hl_hv := sl_len hv;refine co_enter (n := 32) Tryd.func15 rfl rfl rfl [(0, u), (1, v)] rfl (fun a s => ?_);refine q2 ?_;refine pk0 (v := .bool false) s rfl fun _ s => q6 ?_;refine pk0 (v := u) s rfl fun _ s => ?_;refine pk (v := .int .i64 (l.length : Int)) s rfl (rn_len rfl rfl Tryd.underlying28 hu) fun _ s => ?_;refine pk0 (v := v) s rfl fun _ s => ?_;refine pk (v := .int .i64 (l.length : Int)) s rfl (rn_len rfl rfl Tryd.underlying28 hv) fun _ s => ?_;refine pk0 (v := .bool ((l.length : Int) != (l.length : Int))) s rfl fun _ s => q1 ?_;have hc7 : ((l.length : Int) != (l.length : Int)) = false := by first | (simp; done) | (simp; omega) | exact beq_false_of_ne (by omega) | exact beq_iff_eq.2 (by omega)
 rw [hc7] at s;refine co_false s rfl <| q8 ?_;refine pk0 (v := .int .i64 0) s rfl fun _ s => q1 <| wp_block ?_;have s : Slots 32 [(0, u), (1, v), (5, .int .i64 0)] _ := s.sub ⟨rfl, rfl, rfl, trivial⟩;refine co_loop (fun mm a x => ∃ (i : Nat), Slots 32 [(0, u), (1, v), (5, .int .i64 (i : Int))] a ∧ mm = l.length - i ∧ (i ≤ l.length) ∧ Below w.heap.size w x) (l.length - 0) ?_ ?_
 · exact ⟨0, s.sub ⟨rfl, rfl, (slot_eq rfl (congrArg (Value.int .i64) (by first | rfl | omega))), trivial⟩, rfl, by omega, hB0⟩
 · rintro k10 a11 w12 ⟨i, s, rfl, hi13, hB14⟩
   have hz15 := hB14.size;refine q9 ?_;refine pk0 (v := .int .i64 (i : Int)) s rfl fun _ s => ?_;refine pk0 (v := u) s rfl fun _ s => ?_;refine pk (v := .int .i64 (l.length : Int)) s rfl (rn_len rfl rfl Tryd.underlying28 (hu.below hB14)) fun _ s => ?_;refine pk0 (v := .bool (decide ((i : Int) < (l.length : Int)))) s rfl fun _ s => ?_;refine pk0 (v := .bool (decide ((i : Int) < (l.length : Int)))) s rfl fun _ s => ?_;cases hc21 : (decide ((i : Int) < (l.length : Int)))
   ·
    rw [hc21] at s;have hp22 : ¬ ((i : Int) < (l.length : Int)) := of_decide_eq_false hc21;refine psk s rfl fun _ s => ?_;refine psk s rfl fun _ s => ?_;refine psk s rfl fun _ s => ?_;refine psk s rfl fun _ s => ?_;refine pk0 (v := .bool false) s rfl fun _ s => q1 ?_;refine co_false s rfl <| wp_exit <| co_thenX <| co_thenX <| qx <| q2 ?_;refine pk0 (v := .bool true) s rfl fun _ s => q4 ?_;refine co_ret1 s rfl rfl ?_;exact ⟨rfl, hB14⟩
   rw [hc21] at s;have hp29 : (i : Int) < (l.length : Int) := of_decide_eq_true hc21;refine pk0 (v := .int .i64 (i : Int)) s rfl fun _ s => ?_;refine pk0 (v := v) s rfl fun _ s => ?_;refine pk (v := .int .i64 (l.length : Int)) s rfl (rn_len rfl rfl Tryd.underlying28 (hv.below hB14)) fun _ s => ?_;refine pk0 (v := .bool (decide ((i : Int) < (l.length : Int)))) s rfl fun _ s => ?_;refine pk0 (v := .bool (decide ((i : Int) < (l.length : Int)))) s rfl fun _ s => q1 ?_;have hc35 : (decide ((i : Int) < (l.length : Int))) = true := decide_eq_true (by omega);rw [hc35] at s;refine co_true s rfl <| q0 <| co_seq <| wp_block <| co_seq ?_;refine dr_eq (by kernel_rfl) (fun w36 hg37 => ?_);have hz38 := hg37.size;refine dk0 0 (v := u) s rfl rfl rfl fun _ s => ?_;refine dk0 1 (v := .int .i64 (i : Int)) s rfl rfl rfl fun _ s => ?_;have hB42 := hb_new hB14 hg37;obtain ⟨y41, hy41⟩ : ∃ z, l[i]? = some z := ⟨_, List.getElem?_eq_getElem (by first | omega | (simp; done) | (simp; omega))⟩;refine dk 2 (v := pt (blkOf u) (offOf u + i * 1)) s rfl rfl rfl (fun x hx => by subst hx; exact (rn_index rfl rfl rfl Tryd.underlying28 Tryd.sizeOf9 (hu.below hB42) (by omega) (by first | omega | (simp; done) | (simp; omega)))) fun _ s => ?_;refine dk 3 (v := .string y41) s rfl rfl rfl (fun x hx => by subst hx; exact (rn_load1 rfl rfl Tryd.isAgg9 ((sl_at (hu.below hB42) hy41) 0 _ rfl))) fun _ s => ?_;refine dk0 4 (v := v) s rfl rfl rfl fun _ s => ?_;refine dk0 5 (v := .int .i64 (i : Int)) s rfl rfl rfl fun _ s => ?_;refine dk 6 (v := pt (blkOf v) (offOf v + i * 1)) s rfl rfl rfl (fun x hx => by subst hx; exact (rn_index rfl rfl rfl Tryd.underlying28 Tryd.sizeOf9 (hv.below hB42) (by omega) (by first | omega | (simp; done) | (simp; omega)))) fun _ s => ?_;refine dk 7 (v := .string y41) s rfl rfl rfl (fun x hx => by subst hx; exact (rn_load1 rfl rfl Tryd.isAgg9 ((sl_at (hv.below hB42) hy41) 0 _ rfl))) fun _ s => ?_;refine dk0 8 (v := .bool (!(y41.toList == y41.toList))) s rfl rfl rfl fun _ s => ?_;refine dr_done (by kernel_rfl) ?_;refine co_then ?_;have hc50 : (!(y41.toList == y41.toList)) = false := by simp
   rw [hc50] at s;refine co_false s rfl <| wp_skip <| co_blockN <| co_then <| co_reg ?_;refine pk0 (v := .int .i64 (i : Int)) s rfl fun _ s => ?_;refine pk (v := .int .i64 ((i + 1 : Nat) : Int)) s rfl (rn_arith' rfl rfl rfl rfl rfl rfl (IntWalk.i64_in _ (by omega)) (by omega)) fun _ s => ?_;refine pk0 (v := .int .i64 ((i + 1 : Nat) : Int)) s rfl fun _ s => q1 ?_;refine ⟨(l.length - (i + 1)), by omega, ?_⟩;exact ⟨i + 1, s.sub ⟨rfl, rfl, rfl, trivial⟩, rfl, by omega, hB42⟩
set_option maxRecDepth 100000 in
set_option maxHeartbeats 3200000 in
theorem awake13  (w : World) (ht : Tab w) :
    Calls Tryd.prog 19 #[] w fun e w' => e = .returned (.bool true) ∧ Below w.heap.size w w' := by
 have hB0 := Below.refl w.heap.size w;refine co_enter (n := 46) Tryd.func19 rfl rfl rfl [] rfl (fun a s => ?_);refine q2 ?_;refine pk0 (v := .bool false) s rfl fun _ s => q3 ?_;refine pw s rfl (op_call (args := #[]) (R := fun res xw => ∃ N, res = pt N 0 ∧ WlO w.heap.size xw N 0 1 [] [] ∧ Below w.heap.size w xw) rfl rfl rfl (by kernel_rfl) (by kernel_rfl) (Tryd.call10 _ _) (wlNew w.heap.size 1 w (by simp only [Zn.nat]; omega) (by omega)) (by rintro e x ⟨N, rfl, s, h2⟩; exact ⟨_, rfl, N, rfl, s, h2⟩)) ?_;rintro _ w3 a2 ⟨N6, rfl, hd4, hb7⟩ s;have hz8 := hb7.size;refine pk0 (v := pt N6 0) s rfl fun _ s => q3 ?_;refine pk0 (v := pt N6 0) s rfl fun _ s => ?_;have hB15 := hb_call hB0 hb7;refine pw s rfl (op_call (args := #[pt N6 0]) (R := fun res xw => ∃ p : Nat, res = .tuple #[pt p 0, .int .i64 0] ∧ PtO w.heap.size xw N6 1 p ([] : List ByteArray) 0 0 ([hdP 0].foldl appA []) ∧ ButD w.heap.size w3 xw) rfl rfl rfl (by kernel_rfl) (by kernel_rfl) (Tryd.call20 _ _) (ptNew w3 hd4 (ht.below hB15) (tab_nat ht)) (by rintro e x ⟨p, rfl, h⟩; exact ⟨_, rfl, p, rfl, h⟩)) ?_;rintro _ w12 a11 ⟨p16, rfl, hd13, hx14⟩ s;have hz18 := hx14.size;have hB17 := (hbD hB15 hx14);have hz19 := hB17.size;have hln20 := PtO.len hd13;refine pk0 (v := .tuple #[pt p16 0, .int .i64 0]) s rfl fun _ s => ?_;refine pk0 (v := pt p16 0) s rfl fun _ s => ?_;refine pk0 (v := .int .i64 0) s rfl fun _ s => ?_;refine pk0 (v := pt p16 0) s rfl fun _ s => ?_;refine pk0 (v := .int .i64 0) s rfl fun _ s => q3 ?_;refine pk0 (v := pt p16 0) s rfl fun _ s => ?_;refine pw s rfl (op_call (args := #[pt p16 0, .string (⟨#[97]⟩)]) (R := fun res xw => res = .int .i64 0 ∧ PtO w.heap.size xw N6 2 p16 (([] : List ByteArray) ++ [(⟨#[97]⟩ : ByteArray)]) 0 0 ([hdP 0].foldl appA []) ∧ ButD w.heap.size w12 xw) rfl rfl rfl (by kernel_rfl) (by kernel_rfl) (Tryd.call21 _ _) (ptAppend w12 (⟨#[97]⟩ : ByteArray) hd13 (by omega) (ht.below hB17) (tab_nat ht) (by decide)) (by rintro e x ⟨rfl, h1, h2⟩; exact ⟨_, rfl, rfl, h1, h2⟩)) ?_;rintro _ w28 a27 ⟨rfl, hd29, hx30⟩ s;have hz32 := hx30.size;have hB31 := (hbD hB17 hx30);have hz33 := hB31.size;have hln34 := PtO.len hd29;refine pk0 (v := .int .i64 0) s rfl fun _ s => q3 ?_;refine pk0 (v := pt p16 0) s rfl fun _ s => ?_;refine pw s rfl (op_new (v := fun N => .slice (some ⟨N, 0, none⟩) 2 2) (T := 9) (cs := #[.string (⟨#[98]⟩), .string (⟨#[99]⟩)]) (by kernel_rfl) (by kernel_rfl) (by kernel_rfl)) ?_;rintro _ w38 a37 ⟨N39, rfl, hN42, hz43, hk41, hg40⟩ s;have hz44 := hg40.size
 try dsimp only at s
 have hB49 := hb_new hB31 hg40;have hr50 := row_of_cells (enc := strE) (sz := 1) ([⟨#[98]⟩, ⟨#[99]⟩] : List ByteArray) hk41 (Nat.le_refl _) rfl rfl (by unfold maxLen; simp);have hl51 : ([⟨#[98]⟩, ⟨#[99]⟩] : List ByteArray).length = 2 := rfl;have hd52 := hd29.new hg40;refine pw s rfl (op_call (args := #[pt p16 0, .slice (some ⟨N39, 0, none⟩) 2 2]) (R := fun res xw => res = .int .i64 0 ∧ PtO w.heap.size xw N6 (2 + ([⟨#[98]⟩, ⟨#[99]⟩] : List ByteArray).length + 1) p16 ([⟨#[98]⟩, ⟨#[99]⟩] : List ByteArray) (([⟨#[98]⟩, ⟨#[99]⟩] : List ByteArray).length) (([⟨#[98]⟩, ⟨#[99]⟩] : List ByteArray).length) ((hdP ([⟨#[98]⟩, ⟨#[99]⟩] : List ByteArray).length :: ([⟨#[98]⟩, ⟨#[99]⟩] : List ByteArray).map tT).foldl appA []) ∧ ButP w.heap.size p16 w38 xw) rfl rfl rfl (by kernel_rfl) (by kernel_rfl) (Tryd.call25 _ _) (ptSave (.slice (some ⟨N39, 0, none⟩) 2 2) ([⟨#[98]⟩, ⟨#[99]⟩] : List ByteArray) w38 hd52 (fun X hX => SliceOf.own (rowD hr50 (by unfold offD; decide) hX) (fun _ _ => rfl)) (by omega) (by intro z hz; simp at hz; rcases hz with rfl | rfl <;> decide) (ht.below hB49) (tab_nat ht)) (by rintro e x ⟨rfl, h1, h2⟩; exact ⟨_, rfl, rfl, h1, h2⟩)) ?_;rintro _ w46 a45 ⟨rfl, hd47, hx48⟩ s;obtain ⟨_, hbk54⟩ := PtO.blk hd52;have hz55 := hx48.size;have hB53 := (hbP hB49 hx48 (PtO.lo hd52));have hz56 := hB53.size;have hln57 := PtO.len hd47;refine pk0 (v := .int .i64 0) s rfl fun _ s => q3 ?_;refine pk0 (v := pt p16 0) s rfl fun _ s => ?_;refine pw s rfl (op_call (args := #[pt p16 0, .string (⟨#[100]⟩)]) (R := fun res xw => res = .int .i64 0 ∧ PtO w.heap.size xw N6 ((2 + ([⟨#[98]⟩, ⟨#[99]⟩] : List ByteArray).length + 1) + 1) p16 (([⟨#[98]⟩, ⟨#[99]⟩] : List ByteArray) ++ [(⟨#[100]⟩ : ByteArray)]) (([⟨#[98]⟩, ⟨#[99]⟩] : List ByteArray).length) (([⟨#[98]⟩, ⟨#[99]⟩] : List ByteArray).length) ((hdP ([⟨#[98]⟩, ⟨#[99]⟩] : List ByteArray).length :: ([⟨#[98]⟩, ⟨#[99]⟩] : List ByteArray).map tT).foldl appA []) ∧ ButD w.heap.size w46 xw) rfl rfl rfl (by kernel_rfl) (by kernel_rfl) (Tryd.call21 _ _) (ptAppend w46 (⟨#[100]⟩ : ByteArray) hd47 (by omega) (ht.below hB53) (tab_nat ht) (by decide)) (by rintro e x ⟨rfl, h1, h2⟩; exact ⟨_, rfl, rfl, h1, h2⟩)) ?_;rintro _ w61 a60 ⟨rfl, hd62, hx63⟩ s;have hz65 := hx63.size;have hB64 := (hbD hB53 hx63);have hz66 := hB64.size;have hln67 := PtO.len hd62;refine pk0 (v := .int .i64 0) s rfl fun _ s => q3 ?_;refine pk0 (v := .int .i64 0) s rfl fun _ s => ?_;refine pk0 (v := .bool ((0 : Int) == 0)) s rfl fun _ s => ?_;refine pk0 (v := .bool ((0 : Int) == 0)) s rfl fun _ s => ?_;have hc72 : ((0 : Int) == 0) = true := by first | (simp; done) | (simp; omega) | exact beq_false_of_ne (by omega) | exact beq_iff_eq.2 (by omega)
 rw [hc72] at s;refine pk0 (v := .int .i64 0) s rfl fun _ s => ?_;refine pk0 (v := .bool ((0 : Int) == 0)) s rfl fun _ s => ?_;refine pk0 (v := .bool ((0 : Int) == 0)) s rfl fun _ s => ?_;refine pk0 (v := .bool ((0 : Int) == 0)) s rfl fun _ s => ?_;have hc77 : ((0 : Int) == 0) = true := by first | (simp; done) | (simp; omega) | exact beq_false_of_ne (by omega) | exact beq_iff_eq.2 (by omega)
 rw [hc77] at s;refine pk0 (v := .int .i64 0) s rfl fun _ s => ?_;refine pk0 (v := .bool ((0 : Int) == 0)) s rfl fun _ s => ?_;refine pk0 (v := .bool ((0 : Int) == 0)) s rfl fun _ s => ?_;refine pk0 (v := .bool ((0 : Int) == 0)) s rfl fun _ s => ?_;have hc82 : ((0 : Int) == 0) = true := by first | (simp; done) | (simp; omega) | exact beq_false_of_ne (by omega) | exact beq_iff_eq.2 (by omega)
 rw [hc82] at s;refine pk0 (v := .int .i64 0) s rfl fun _ s => ?_;refine pk0 (v := .bool ((0 : Int) == 0)) s rfl fun _ s => ?_;refine pk0 (v := .bool ((0 : Int) == 0)) s rfl fun _ s => ?_;refine pk0 (v := .bool ((0 : Int) == 0)) s rfl fun _ s => ?_;have hc87 : ((0 : Int) == 0) = true := by first | (simp; done) | (simp; omega) | exact beq_false_of_ne (by omega) | exact beq_iff_eq.2 (by omega)
 rw [hc87] at s;refine pk0 (v := pt p16 0) s rfl fun _ s => ?_;have hr93 := rowP hr50 (by unfold offD; decide) hx48 hbk54 (by decide);have hr94 := rowD hr93 (by unfold offD; decide) hx63;refine pw s rfl (op_call (args := #[pt p16 0]) (R := fun res xw => ∃ (u : Value), u = res ∧ xw.ownsRow w61.heap.size 9 1 u (([⟨#[98]⟩, ⟨#[99]⟩] : List ByteArray) ++ [(⟨#[100]⟩ : ByteArray)]).length ((([⟨#[98]⟩, ⟨#[99]⟩] : List ByteArray) ++ [(⟨#[100]⟩ : ByteArray)]).flatMap strE) ∧ PtO w.heap.size xw N6 ((2 + ([⟨#[98]⟩, ⟨#[99]⟩] : List ByteArray).length + 1) + 1) p16 (([⟨#[98]⟩, ⟨#[99]⟩] : List ByteArray) ++ [(⟨#[100]⟩ : ByteArray)]) (([⟨#[98]⟩, ⟨#[99]⟩] : List ByteArray).length) (([⟨#[98]⟩, ⟨#[99]⟩] : List ByteArray).length) ((hdP ([⟨#[98]⟩, ⟨#[99]⟩] : List ByteArray).length :: ([⟨#[98]⟩, ⟨#[99]⟩] : List ByteArray).map tT).foldl appA []) ∧ ButD w.heap.size w61 xw) rfl rfl rfl (by kernel_rfl) (by kernel_rfl) (Tryd.call23 _ _) (ptTexts w61 hd62 (by omega) (ht.below hB64) (tab_nat ht)) (by rintro e x ⟨u, rfl, h⟩; exact ⟨_, rfl, u, rfl, h⟩)) ?_;rintro _ w90 a89 ⟨u95, rfl, hr96, hd91, hx92⟩ s;have hz98 := hx92.size;have hB97 := (hbD hB64 hx92);have hz99 := hB97.size;have hln100 := PtO.len hd91;have hl101 := sl_len (row_sl hr96 strE_lenW);refine pw s rfl (op_new (v := fun N => .slice (some ⟨N, 0, none⟩) 3 3) (T := 9) (cs := #[.string (⟨#[98]⟩), .string (⟨#[99]⟩), .string (⟨#[100]⟩)]) (by kernel_rfl) (by kernel_rfl) (by kernel_rfl)) ?_;rintro _ w103 a102 ⟨N104, rfl, hN107, hz108, hk106, hg105⟩ s;have hr110 := rowD hr94 (by unfold offD; decide) hx92;have ha109 := row_fresh hr110 hN107;have ha111 := row_fresh hr96 hN107;have hz112 := hg105.size
 try dsimp only at s
 have hr115 := row_of_cells (enc := strE) (sz := 1) ([⟨#[98]⟩, ⟨#[99]⟩, ⟨#[100]⟩] : List ByteArray) hk106 (Nat.le_refl _) rfl rfl (by unfold maxLen; simp);have hr116 := row_kept_new hr96 hg105;have hB117 := hb_new hB97 hg105;refine pw s rfl (op_call (args := #[u95, .slice (some ⟨N104, 0, none⟩) 3 3]) (R := fun res xw => res = .bool true ∧ Below w103.heap.size w103 xw) rfl rfl rfl (by kernel_rfl) (by kernel_rfl) (Tryd.call15 _ _) (sameStr13_any u95 (.slice (some ⟨N104, 0, none⟩) 3 3) (([⟨#[98]⟩, ⟨#[99]⟩] : List ByteArray) ++ [(⟨#[100]⟩ : ByteArray)]) w103 (row_sl hr116 strE_lenW) (sl_castW (row_sl hr115 strE_lenW) (by rfl))) (by rintro e x ⟨rfl, h⟩; exact ⟨_, rfl, rfl, h⟩)) ?_;rintro _ w114 a113 ⟨rfl, hb118⟩ s;have hz119 := hb118.size;refine pk0 (v := .bool true) s rfl fun _ s => ?_;refine pk0 (v := .bool true) s rfl fun _ s => ?_;refine pk0 (v := pt N6 0) s rfl fun _ s => ?_;have hB127 := hb_call hB117 hb118;have hr128 := row_kept_new hr110 hg105;have hr129 := row_kept_new hr128 (below_grown hb118);have hd130 := hd91.new hg105;have hd131 := hd130.call hb118;refine pw s rfl (op_call (args := #[pt N6 0]) (R := fun res xw => ∃ (ys : List Int) (u : Value), u = res ∧ xw.ownsRow w114.heap.size 3 1 u ys.length (ys.flatMap (intE .i64)) ∧ ys.length = ((((([⟨#[98]⟩, ⟨#[99]⟩] : List ByteArray) ++ [(⟨#[100]⟩ : ByteArray)]).drop (([⟨#[98]⟩, ⟨#[99]⟩] : List ByteArray).length)).map tT).foldl appA ((hdP ([⟨#[98]⟩, ⟨#[99]⟩] : List ByteArray).length :: ([⟨#[98]⟩, ⟨#[99]⟩] : List ByteArray).map tT).foldl appA [])).length ∧ PtO w.heap.size xw N6 ((2 + ([⟨#[98]⟩, ⟨#[99]⟩] : List ByteArray).length + 1) + 1) p16 (([⟨#[98]⟩, ⟨#[99]⟩] : List ByteArray) ++ [(⟨#[100]⟩ : ByteArray)]) (([⟨#[98]⟩, ⟨#[99]⟩] : List ByteArray).length) (([⟨#[98]⟩, ⟨#[99]⟩] : List ByteArray).length) ((hdP ([⟨#[98]⟩, ⟨#[99]⟩] : List ByteArray).length :: ([⟨#[98]⟩, ⟨#[99]⟩] : List ByteArray).map tT).foldl appA []) ∧ ButD w.heap.size w114 xw) rfl rfl rfl (by kernel_rfl) (by kernel_rfl) (Tryd.call26 _ _) (ptFiles w114 hd131 (by omega)) (by rintro e x ⟨ys, u, rfl, h⟩; exact ⟨_, rfl, ys, u, rfl, h⟩)) ?_;rintro _ w124 a123 ⟨ys134, u132, rfl, hr133, hn135, hd125, hx126⟩ s;have hz137 := hx126.size;have hB136 := (hbD hB127 hx126);have hz138 := hB136.size;have hln139 := PtO.len hd125;have hl140 := sl_len (row_sl hr133 (intE_len .i64));have hfl : ys134.length = 1 := hn135.trans (aw13_len _ _ _ _ (by decide) (by decide) (by decide));refine pk (v := .int .i64 (ys134.length : Int)) s rfl (rn_lenOwn rfl rfl Tryd.underlying53 hr133) fun _ s => ?_;refine pk0 (v := .bool ((ys134.length : Int) == 1)) s rfl fun _ s => ?_;refine pk0 (v := .bool ((ys134.length : Int) == 1)) s rfl fun _ s => ?_;refine pk0 (v := .bool ((ys134.length : Int) == 1)) s rfl fun _ s => q4 ?_;refine co_ret1 s rfl rfl ?_;exact ⟨by rw [hfl]; rfl, hB136⟩
end Go.Proofs.YtfiplhnplmadmaaDoor

/- catenalaw13: short. Conditions: none. -/
namespace Go.Proofs.YtfiplhnplmadmaaDoor
open Go.RowKit Go.PlainAid
set_option linter.unusedVariables false
set_option linter.unusedSimpArgs false


def okP (a : PActT) : Prop := a.s.size ≤ 300 ∧ a.l.length ≤ 10 ∧ ∀ z ∈ a.l, z.size ≤ 300
instance (a : PActT) : Decidable (okP a) := by unfold okP; infer_instance
def shortP (l : List PActT) : Bool := (l.take 30).all fun a => decide (okP a)
def shT (l : List PActT) (i : Nat) : Prop := ∀ j, j < i → ∀ y, l[j]? = some y → okP y
def inT (l : List PActT) (i j : Nat) : Prop := ∀ y, l[i]? = some y → ∀ k, k < j → ∀ z, y.l[k]? = some z → z.size ≤ 300
theorem shT_0 (l : List PActT) : shT l 0 := fun j hj => by omega
theorem inT_0 (l : List PActT) (i : Nat) : inT l i 0 := fun y _ k hk => by omega
theorem inT_next {l : List PActT} {i j : Nat} {y : PActT} {z : ByteArray} (h : inT l i j) (hy : l[i]? = some y) (hz : y.l[j]? = some z) (hs : z.size ≤ 300) : inT l i (j + 1) := fun y2 h2 k hk z2 hz2 => by
  rw [hy] at h2; cases h2
  by_cases e : k = j
  · subst e; rw [hz] at hz2; cases hz2; exact hs
  · exact h y hy k (by omega) z2 hz2
theorem shT_next {l : List PActT} {i j : Nat} {y : PActT} (h : shT l i) (hy : l[i]? = some y) (h1 : y.s.size ≤ 300) (h2 : y.l.length ≤ 10) (hi : inT l i j) (hj : y.l.length ≤ j) : shT l (i + 1) := fun k hk y2 hy2 => by
  by_cases e : k = i
  · subst e; rw [hy] at hy2; cases hy2
    refine ⟨h1, h2, fun z hz => ?_⟩
    obtain ⟨q, hq⟩ := List.getElem?_of_mem hz
    exact hi y hy q (by have := (List.getElem?_eq_some_iff.1 hq).1; omega) z hq
  · exact h k (by omega) y2 hy2
theorem shortP_y {l : List PActT} {i : Nat} (h : shT l i) (hi : l.length ≤ i ∨ 30 ≤ i) : true = shortP l := by
  unfold shortP; symm; rw [List.all_eq_true]
  intro a ha
  obtain ⟨j, hj⟩ := List.getElem?_of_mem ha
  rw [List.getElem?_take] at hj
  by_cases h4 : j < 30
  · rw [if_pos h4] at hj
    have hl := (List.getElem?_eq_some_iff.1 hj).1
    exact decide_eq_true (h j (by omega) a hj)
  · rw [if_neg h4] at hj; cases hj
theorem shortP_n {l : List PActT} {i : Nat} {y : PActT} (hy : l[i]? = some y) (h4 : i < 30) (hs : ¬ okP y) : false = shortP l := by
  unfold shortP; symm; rw [List.all_eq_false]
  exact ⟨y, List.mem_of_getElem? (i := i) (by rw [List.getElem?_take, if_pos h4]; exact hy), by simpa using hs⟩
theorem shortP_s {l : List PActT} {i : Nat} {y : PActT} (hy : l[i]? = some y) (h4 : i < 30) (hs : 300 < y.s.size) : false = shortP l := shortP_n hy h4 (fun h => by have := h.1; omega)
theorem shortP_l {l : List PActT} {i : Nat} {y : PActT} (hy : l[i]? = some y) (h4 : i < 30) (hs : 10 < y.l.length) : false = shortP l := shortP_n hy h4 (fun h => by have := h.2.1; omega)
theorem shortP_z {l : List PActT} {i j : Nat} {y : PActT} {z : ByteArray} (hy : l[i]? = some y) (h4 : i < 30) (hz : y.l[j]? = some z) (hs : 300 < z.size) : false = shortP l := shortP_n hy h4 (fun h => by have := h.2.2 z (List.mem_of_getElem? hz); omega)
set_option maxRecDepth 100000 in
theorem short13_any (v : Value) (l : List PActT) (w : World) (hs : SliceOf pactE 4 w v l) (hok : ∀ z ∈ l, PActS w z) :
    Calls Tryd.prog 18 #[v] w fun e w' => e = .returned (.bool (shortP l)) ∧ Below w.heap.size w w' := by
 have hB0 := Below.refl w.heap.size w;have hl_hs := sl_len hs;refine co_enter (n := 51) Tryd.func18 rfl rfl rfl [(0, v)] rfl (fun a g => ?_);refine q2 ?_;refine pk0 (v := .bool false) g rfl fun _ g => q6 ?_;refine pk0 (v := .int .i64 0) g rfl fun _ g => q1 <| wp_block ?_;have g : Slots 51 [(0, v), (3, .int .i64 0)] _ := g.sub ⟨rfl, rfl, trivial⟩;refine co_loop (fun mm a x => ∃ (i : Nat), Slots 51 [(0, v), (3, .int .i64 (i : Int))] a ∧ mm = l.length - i ∧ (i ≤ l.length) ∧ (i ≤ 30) ∧ (shT l i) ∧ Below w.heap.size w x) (l.length - 0) ?_ ?_
 · exact ⟨0, g.sub ⟨rfl, (slot_eq rfl (congrArg (Value.int .i64) (by first | rfl | omega))), trivial⟩, rfl, by omega, by omega, by first | exact shT_0 _ | exact shT_next (by assumption) (by assumption) (by omega) (by omega) (by assumption) (by omega), hB0⟩
 · rintro k4 a5 w6 ⟨i, g, rfl, hi7, hi8, hi9, hB10⟩
   have hz11 := hB10.size;refine q9 ?_;refine pk0 (v := .int .i64 (i : Int)) g rfl fun _ g => ?_;refine pk0 (v := v) g rfl fun _ g => ?_;refine pk (v := .int .i64 (l.length : Int)) g rfl (rn_len rfl rfl Tryd.underlying43 (hs.below hB10)) fun _ g => ?_;refine pk0 (v := .bool (decide ((i : Int) < (l.length : Int)))) g rfl fun _ g => ?_;refine pk0 (v := .bool (decide ((i : Int) < (l.length : Int)))) g rfl fun _ g => ?_;cases hc17 : (decide ((i : Int) < (l.length : Int)))
   ·
    rw [hc17] at g;have hp18 : ¬ ((i : Int) < (l.length : Int)) := of_decide_eq_false hc17;refine psk g rfl fun _ g => ?_;refine psk g rfl fun _ g => ?_;refine pk0 (v := .bool false) g rfl fun _ g => q1 ?_;refine co_false g rfl <| wp_exit <| co_thenX <| co_thenX <| qx <| q2 ?_;refine pk0 (v := .bool true) g rfl fun _ g => q4 ?_;refine co_ret1 g rfl rfl ?_;exact ⟨ret_bool (by first | exact shortP_y (by assumption) (by omega) | exact shortP_s (by assumption) (by omega) (by omega) | exact shortP_l (by assumption) (by omega) (by omega) | exact shortP_z (by assumption) (by omega) (by assumption) (by omega)), hB10⟩
   rw [hc17] at g;have hp23 : (i : Int) < (l.length : Int) := of_decide_eq_true hc17;refine pk0 (v := .int .i64 (i : Int)) g rfl fun _ g => ?_;refine pk0 (v := .bool (decide ((i : Int) < 30))) g rfl fun _ g => ?_;refine pk0 (v := .bool (decide ((i : Int) < 30))) g rfl fun _ g => q1 ?_;cases hc27 : (decide ((i : Int) < 30))
   ·
    rw [hc27] at g;have hp28 : ¬ ((i : Int) < 30) := of_decide_eq_false hc27;refine co_false g rfl <| wp_exit <| co_thenX <| co_thenX <| qx <| q2 ?_;refine pk0 (v := .bool true) g rfl fun _ g => q4 ?_;refine co_ret1 g rfl rfl ?_;exact ⟨ret_bool (by first | exact shortP_y (by assumption) (by omega) | exact shortP_s (by assumption) (by omega) (by omega) | exact shortP_l (by assumption) (by omega) (by omega) | exact shortP_z (by assumption) (by omega) (by assumption) (by omega)), hB10⟩
   rw [hc27] at g;have hp30 : (i : Int) < 30 := of_decide_eq_true hc27;refine co_true g rfl <| q0 <| co_seq <| wp_block <| q9 ?_;refine pk0 (v := v) g rfl fun _ g => ?_;refine pk0 (v := .int .i64 (i : Int)) g rfl fun _ g => ?_;obtain ⟨y33, hy33⟩ : ∃ z, l[i]? = some z := ⟨_, List.getElem?_eq_getElem (by first | omega | (simp; done) | (simp; omega))⟩;have oky33 := hok _ (List.mem_of_getElem? hy33);have hlay33 := lenAt_eq hy33;refine pk (v := pt (blkOf v) (offOf v + i * 4)) g rfl (rn_index rfl rfl rfl Tryd.underlying43 Tryd.sizeOf49 (hs.below hB10) (by omega) (by first | omega | (simp; done) | (simp; omega))) fun _ g => ?_;refine pk0 (v := pt (blkOf v) (offOf v + i * 4 + 1)) g rfl fun _ g => ?_;refine pk (v := .string y33.s) g rfl (rn_load1 rfl rfl Tryd.isAgg9 ((sl_at (hs.below hB10) hy33) 1 _ rfl)) fun _ g => ?_;refine pk (v := .int .i64 (y33.s.size : Int)) g rfl (rn_lenStr rfl rfl Tryd.underlying9) fun _ g => ?_;refine pk0 (v := .bool (decide ((y33.s.size : Int) > 300))) g rfl fun _ g => ?_;refine pk0 (v := .bool (decide ((y33.s.size : Int) > 300))) g rfl fun _ g => ?_;cases hc40 : (decide ((y33.s.size : Int) > 300))
   ·
    rw [hc40] at g;have hp41 : ¬ ((y33.s.size : Int) > 300) := of_decide_eq_false hc40;refine pk0 (v := v) g rfl fun _ g => ?_;refine pk0 (v := .int .i64 (i : Int)) g rfl fun _ g => ?_;refine pk (v := pt (blkOf v) (offOf v + i * 4)) g rfl (rn_index rfl rfl rfl Tryd.underlying43 Tryd.sizeOf49 (hs.below hB10) (by omega) (by first | omega | (simp; done) | (simp; omega))) fun _ g => ?_;refine pk0 (v := pt (blkOf v) (offOf v + i * 4 + 2)) g rfl fun _ g => ?_;refine pk (v := y33.lv) g rfl (rn_load1 rfl rfl Tryd.isAgg28 ((sl_at (hs.below hB10) hy33) 2 _ rfl)) fun _ g => ?_;refine pk (v := .int .i64 (y33.l.length : Int)) g rfl (rn_len rfl rfl Tryd.underlying28 (oky33.sl.below hB10)) fun _ g => ?_;refine pk0 (v := .bool (decide ((y33.l.length : Int) > 10))) g rfl fun _ g => ?_;refine pk0 (v := .bool (decide ((y33.l.length : Int) > 10))) g rfl fun _ g => q1 ?_;cases hc50 : (decide ((y33.l.length : Int) > 10))
    ·
     rw [hc50] at g;have hp51 : ¬ ((y33.l.length : Int) > 10) := of_decide_eq_false hc50;refine co_false g rfl <| q7 ?_;refine pk0 (v := .int .i64 0) g rfl fun _ g => q1 <| wp_block ?_;have g : Slots 51 [(0, v), (3, .int .i64 (i : Int)), (4, .int .i64 0)] _ := g.sub ⟨rfl, rfl, rfl, trivial⟩;refine co_loop (fun mm a x => ∃ (j : Nat), Slots 51 [(0, v), (3, .int .i64 (i : Int)), (4, .int .i64 (j : Int))] a ∧ mm = lenAt l i - j ∧ (j ≤ lenAt l i) ∧ (inT l i j) ∧ Below w.heap.size w x) (lenAt l i - 0) ?_ ?_
     · exact ⟨0, g.sub ⟨rfl, rfl, (slot_eq rfl (congrArg (Value.int .i64) (by first | rfl | omega))), trivial⟩, rfl, by omega, by first | exact inT_0 _ _ | exact inT_next (by assumption) (by assumption) (by assumption) (by omega), hB10⟩
     · rintro k54 a55 w56 ⟨j, g, rfl, hi57, hi58, hB59⟩
       have hz60 := hB59.size;refine q9 ?_;refine pk0 (v := .int .i64 (j : Int)) g rfl fun _ g => ?_;refine pk0 (v := v) g rfl fun _ g => ?_;refine pk0 (v := .int .i64 (i : Int)) g rfl fun _ g => ?_;refine pk (v := pt (blkOf v) (offOf v + i * 4)) g rfl (rn_index rfl rfl rfl Tryd.underlying43 Tryd.sizeOf49 (hs.below hB59) (by omega) (by first | omega | (simp; done) | (simp; omega))) fun _ g => ?_;refine pk0 (v := pt (blkOf v) (offOf v + i * 4 + 2)) g rfl fun _ g => ?_;refine pk (v := y33.lv) g rfl (rn_load1 rfl rfl Tryd.isAgg28 ((sl_at (hs.below hB59) hy33) 2 _ rfl)) fun _ g => ?_;refine pk (v := .int .i64 (y33.l.length : Int)) g rfl (rn_len rfl rfl Tryd.underlying28 (oky33.sl.below hB59)) fun _ g => ?_;refine pk0 (v := .bool (decide ((j : Int) < (y33.l.length : Int)))) g rfl fun _ g => q1 ?_;cases hc69 : (decide ((j : Int) < (y33.l.length : Int)))
       ·
        rw [hc69] at g;have hp70 : ¬ ((j : Int) < (y33.l.length : Int)) := of_decide_eq_false hc69;refine co_false g rfl <| wp_exit <| co_thenX <| co_thenX <| co_blockX <| co_blockN <| co_then <| co_reg ?_;refine pk0 (v := .int .i64 (i : Int)) g rfl fun _ g => ?_;refine pk (v := .int .i64 ((i + 1 : Nat) : Int)) g rfl (rn_arith' rfl rfl rfl rfl rfl rfl (IntWalk.i64_in _ (by omega)) (by omega)) fun _ g => ?_;refine pk0 (v := .int .i64 ((i + 1 : Nat) : Int)) g rfl fun _ g => q1 ?_;refine ⟨(l.length - (i + 1)), by omega, ?_⟩;exact ⟨i + 1, g.sub ⟨rfl, rfl, trivial⟩, rfl, by omega, by omega, by first | exact shT_0 _ | exact shT_next (by assumption) (by assumption) (by omega) (by omega) (by assumption) (by omega), hB59⟩
       rw [hc69] at g;have hp74 : (j : Int) < (y33.l.length : Int) := of_decide_eq_true hc69;refine co_true g rfl <| q0 <| co_seq <| wp_block <| q2 ?_;refine pk0 (v := v) g rfl fun _ g => ?_;refine pk0 (v := .int .i64 (i : Int)) g rfl fun _ g => ?_;refine pk (v := pt (blkOf v) (offOf v + i * 4)) g rfl (rn_index rfl rfl rfl Tryd.underlying43 Tryd.sizeOf49 (hs.below hB59) (by omega) (by first | omega | (simp; done) | (simp; omega))) fun _ g => ?_;refine pk0 (v := pt (blkOf v) (offOf v + i * 4 + 2)) g rfl fun _ g => ?_;refine pk (v := y33.lv) g rfl (rn_load1 rfl rfl Tryd.isAgg28 ((sl_at (hs.below hB59) hy33) 2 _ rfl)) fun _ g => ?_;refine pk0 (v := .int .i64 (j : Int)) g rfl fun _ g => ?_;obtain ⟨y81, hy81⟩ : ∃ z, y33.l[j]? = some z := ⟨_, List.getElem?_eq_getElem (by first | omega | (simp; done) | (simp; omega))⟩;refine pk (v := pt (blkOf (y33.lv)) (offOf (y33.lv) + j * 1)) g rfl (rn_index rfl rfl rfl Tryd.underlying28 Tryd.sizeOf9 (oky33.sl.below hB59) (by omega) (by first | omega | (simp; done) | (simp; omega))) fun _ g => ?_;refine pk (v := .string y81) g rfl (rn_load1 rfl rfl Tryd.isAgg9 ((sl_at (oky33.sl.below hB59) hy81) 0 _ rfl)) fun _ g => ?_;refine pk (v := .int .i64 (y81.size : Int)) g rfl (rn_lenStr rfl rfl Tryd.underlying9) fun _ g => ?_;refine pk0 (v := .bool (decide ((y81.size : Int) > 300))) g rfl fun _ g => q1 ?_;cases hc86 : (decide ((y81.size : Int) > 300))
       ·
        rw [hc86] at g;have hp87 : ¬ ((y81.size : Int) > 300) := of_decide_eq_false hc86;refine co_false g rfl <| wp_skip <| co_blockN <| co_then <| co_reg ?_;refine pk0 (v := .int .i64 (j : Int)) g rfl fun _ g => ?_;refine pk (v := .int .i64 ((j + 1 : Nat) : Int)) g rfl (rn_arith' rfl rfl rfl rfl rfl rfl (IntWalk.i64_in _ (by omega)) (by omega)) fun _ g => ?_;refine pk0 (v := .int .i64 ((j + 1 : Nat) : Int)) g rfl fun _ g => q1 ?_;refine ⟨(lenAt l i - (j + 1)), by omega, ?_⟩;exact ⟨j + 1, g.sub ⟨rfl, rfl, rfl, trivial⟩, rfl, by omega, by first | exact inT_0 _ _ | exact inT_next (by assumption) (by assumption) (by assumption) (by omega), hB59⟩
       rw [hc86] at g;have hp91 : (y81.size : Int) > 300 := of_decide_eq_true hc86;refine co_true g rfl <| q2 ?_;refine pk0 (v := .bool false) g rfl fun _ g => q4 <| qr <| co_thenR <| co_blockR <| qr <| co_thenR <| qr ?_;refine co_ret1 g rfl rfl ?_;exact ⟨ret_bool (by first | exact shortP_y (by assumption) (by omega) | exact shortP_s (by assumption) (by omega) (by omega) | exact shortP_l (by assumption) (by omega) (by omega) | exact shortP_z (by assumption) (by omega) (by assumption) (by omega)), hB59⟩
    rw [hc50] at g;have hp93 : (y33.l.length : Int) > 10 := of_decide_eq_true hc50;refine co_true g rfl <| q2 ?_;refine pk0 (v := .bool false) g rfl fun _ g => q5 <| qr <| co_thenR <| qr ?_;refine co_ret1 g rfl rfl ?_;exact ⟨ret_bool (by first | exact shortP_y (by assumption) (by omega) | exact shortP_s (by assumption) (by omega) (by omega) | exact shortP_l (by assumption) (by omega) (by omega) | exact shortP_z (by assumption) (by omega) (by assumption) (by omega)), hB10⟩
   rw [hc40] at g;have hp95 : (y33.s.size : Int) > 300 := of_decide_eq_true hc40;refine psk g rfl fun _ g => ?_;refine psk g rfl fun _ g => ?_;refine psk g rfl fun _ g => ?_;refine psk g rfl fun _ g => ?_;refine psk g rfl fun _ g => ?_;refine psk g rfl fun _ g => ?_;refine psk g rfl fun _ g => ?_;refine pk0 (v := .bool true) g rfl fun _ g => q1 ?_;refine co_true g rfl <| q2 ?_;refine pk0 (v := .bool false) g rfl fun _ g => q5 <| qr <| co_thenR <| qr ?_;refine co_ret1 g rfl rfl ?_;exact ⟨ret_bool (by first | exact shortP_y (by assumption) (by omega) | exact shortP_s (by assumption) (by omega) (by omega) | exact shortP_l (by assumption) (by omega) (by omega) | exact shortP_z (by assumption) (by omega) (by assumption) (by omega)), hB10⟩
end Go.Proofs.YtfiplhnplmadmaaDoor

/- catenalaw13.PointTorn, pure and objects: the files of a checkpoint; what a round writes; which log is found. Conditions: few, short texts. -/
namespace Go.Proofs.YtfiplhnplmadmaaDoor
open Go.RowKit Go.PlainAid Go.Shelf
set_option linter.unusedVariables false
/-- The files of a checkpoint of l. -/
def bB (l : List ByteArray) : List WSeg := (hdP l.length :: l.map tT).foldl appA []
def G7 (y : WSeg) : Prop := GdS y ∧ y.b.size ≤ 70000
theorem g7_app {A : List WSeg} (h : ∀ y ∈ A, G7 y) {x : ByteArray} (hx : x.size ≤ 65536) : ∀ y ∈ appA A x, G7 y := fun z hz => by
  have hA : OkA A := fun y hy => (h y hy).1.1
  have hok := hA.app hx z hz
  rcases putA_mem hz with h1 | h1
  · exact h z h1
  · obtain ⟨y, h2, h3, h4⟩ := at_seg A
    rw [h2] at h1
    have hb : y.b.size ≤ 256 := by
      rcases h4 with ⟨h5, h6⟩ | ⟨h5, h6⟩
      · obtain ⟨y2, q1, q2, q3, q4⟩ := at_lt (A := A) (by omega)
        rw [h5] at q1; cases q1; omega
      · rw [h5]; decide
    subst h1
    have hfr := frameB_le hx
    have hbb : (appS x y).b.size = y.b.size + (frameB x).size := by
      have e : (appS x y).b = catF (y.T ++ [x]) := bapp_nil _
      have e2 : y.b = catF y.T := by unfold WSeg.b; rw [h3]; exact bapp_nil _
      rw [e, e2, catF_snoc, bsz_app]
    exact ⟨⟨hok, rfl, by show y.T ++ [x] ≠ []; simp⟩, by rw [hbb]; omega⟩
theorem g7_run : ∀ (xs : List ByteArray) (A : List WSeg), (∀ y ∈ A, G7 y) → (∀ x ∈ xs, x.size ≤ 65536) → ∀ y ∈ xs.foldl appA A, G7 y
  | [], A, h, _ => h
  | x :: r, A, h, hx => g7_run r (appA A x) (g7_app h (hx x (List.mem_cons_self ..))) (fun z hz => hx z (List.mem_cons_of_mem _ hz))
def Sh (l : List ByteArray) : Prop := l.length ≤ 10 ∧ ∀ z ∈ l, z.size ≤ 300
theorem bB_g7 {l : List ByteArray} (h : Sh l) : ∀ y ∈ bB l, G7 y := g7_run _ [] (fun y hy => by cases hy) (fun x hx => by
  rcases List.mem_cons.1 hx with rfl | hx
  · have := hd_size l.length
    have := lenOf_bd (l.length : Int)
    omega
  · obtain ⟨t, ht, rfl⟩ := List.mem_map.1 hx
    have := h.2 t ht
    show ((⟨#[84]⟩ : ByteArray) ++ t).size ≤ 65536
    rw [one_size]; omega)
theorem bB_gd {l : List ByteArray} (h : Sh l) : ∀ y ∈ bB l, GdS y := fun y hy => (bB_g7 h y hy).1
theorem bB_txt (l : List ByteArray) : txtA (bB l) = hdP l.length :: l.map tT := by unfold bB; rw [txt_run]; rfl
theorem bB_hd (l : List ByteArray) : HdA (bB l) l.length := hd_new _ _
theorem bB_len (l : List ByteArray) : (bB l).length ≤ l.length + 1 := by
  have := run_len (hdP l.length :: l.map tT) []
  rw [List.length_cons, List.length_map, List.length_nil] at this
  unfold bB; omega
theorem bB_pos (l : List ByteArray) : 0 < (bB l).length := by
  obtain ⟨y, r, h1, -⟩ := bB_hd l
  have := (List.getElem?_eq_some_iff.1 h1).1; omega
/-- So many bytes are left in round i. -/
def LfT (l : List ByteArray) (C i left : Nat) : Prop := left = C - psz ((bB l).take i)
theorem lf_0 (l : List ByteArray) (C : Nat) : LfT l C 0 C := by unfold LfT; simp [psz]
theorem lf_next {l : List ByteArray} {C i left n : Nat} {y : WSeg} (h : LfT l C i left) (hy : (bB l)[i]? = some y) (hn : n = min left y.b.size) : LfT l C (i + 1) (left - n) := by
  unfold LfT at h ⊢; rw [psz_at hy]; omega
noncomputable def cZ (l : List ByteArray) (C i : Nat) : List WSeg := (cutA (bB l) C).take i
/-- What round i writes. -/
theorem lf_cut {l : List ByteArray} {C i left : Nat} {y : WSeg} (hs : Sh l) (h : LfT l C i left) (hy : (bB l)[i]? = some y) :
    (0 < left → ∃ z, (cZ l C (i + 1) = cZ l C i ++ [z]) ∧ z.b = y.b.extract 0 (min left y.b.size) ∧ (cZ l C i).length = i) ∧ (left = 0 → cZ l C (i + 1) = cZ l C i) := by
  obtain ⟨h1, h2⟩ := cut_rd (bB l) C i y (bB_gd hs) hy
  unfold LfT at h
  rw [← h] at h1 h2
  unfold cZ
  refine ⟨fun hp => ?_, fun hp => ?_⟩
  · obtain ⟨z, z1, z2, z3⟩ := h1 hp
    exact ⟨z, by rw [List.take_add_one, z1]; rfl, z2, by rw [List.length_take]; omega⟩
  · have := h2 hp
    rw [List.take_of_length_le this, List.take_of_length_le (by omega)]
section
variable {S : Nat → Prop} {w : World} {d m p : Nat} {first : Int} {G : List WSeg} {l l2 : List ByteArray} {C i : Nat}
theorem TrF.up {m' : Nat} (h : TrF S w d m first G) (hm : m ≤ m') : TrF S w d m' first G := by
  obtain ⟨h0, s, h1, h2, h3, h4, h5, h6, h7⟩ := h
  exact ⟨h0, s, h1, h2, h3.up hm, h4, by omega, by omega, h7⟩
theorem tr_start (h : PxF S w d m p l l.length (bB l) first) (hm : m ≤ 100) : TrF S w d 100 first (bB l ++ cZ l2 C 0) := by
  have h1 := (WlF.tr h.wl).up hm
  have e : bB l ++ cZ l2 C 0 = bB l := by unfold cZ; rw [List.take_zero, List.append_nil]
  rw [e]; exact h1
theorem tr_next {z : WSeg} (h : TrF S w d m first ((bB l ++ cZ l2 C i) ++ [z])) (hz : cZ l2 C (i + 1) = cZ l2 C i ++ [z]) : TrF S w d m first (bB l ++ cZ l2 C (i + 1)) := by
  rw [hz, ← List.append_assoc]; exact h
theorem tr_same (h : TrF S w d m first (bB l ++ cZ l2 C i)) (hz : cZ l2 C (i + 1) = cZ l2 C i) : TrF S w d (m + 1) first (bB l ++ cZ l2 C (i + 1)) := by
  rw [hz]; exact h.up (Nat.le_succ m)
theorem cz_end (h : (bB l2).length ≤ i) : cZ l2 C i = cutA (bB l2) C := by
  unfold cZ; exact List.take_of_length_le (Nat.le_trans (cut_len _ _) h)
theorem tr_ok (hl : Sh l) (h2 : Sh l2) : OkA (bB l ++ cZ l2 C i) := fun y hy => by
  rcases List.mem_append.1 hy with hy | hy
  · exact (bB_gd hl y hy).1
  · exact cut_ok (bB l2) C (bB_gd h2) y (List.mem_of_mem_take hy)
theorem txt_cutle : ∀ (B : List WSeg) (n : Nat), (∀ z ∈ B, GdS z) → (txtA (cutA B n)).length ≤ (txtA B).length := fun B n h => by
  by_cases hn : n < psz B
  · exact Nat.le_of_lt (cut_less B n h hn).2
  · rw [cut_all B n h (by omega)]; exact Nat.le_refl _
theorem tr_txt (hl : Sh l) (h2 : Sh l2) : (txtA (bB l ++ cZ l2 C i)).length ≤ 30 := by
  have e1 : txtA (bB l ++ cZ l2 C i) = txtA (bB l) ++ txtA (cZ l2 C i) := List.flatMap_append ..
  have e2 : (txtA (cZ l2 C i)).length ≤ (txtA (cutA (bB l2) C)).length := by
    have := txt_mid (cutA (bB l2) C) 0 i
    simpa [cZ] using this
  have e3 := txt_cutle (bB l2) C (bB_gd h2)
  rw [e1, List.length_append, bB_txt]
  rw [bB_txt] at e3
  simp only [List.length_cons, List.length_map] at e3 ⊢
  have := hl.1; have := h2.1
  omega
/-- All of it is there: that is found. -/
theorem ft_open_new (w : World) (h : WlF S w d m first (bB l ++ cZ l2 C i) []) (hi : (bB l2).length ≤ i) (hlo : ∀ q, S q → 0 < q) (ht : Tab w) (hl : Sh l) (h2 : Sh l2) (hC : psz (bB l2) ≤ C) (hm : m ≤ 800) (hf : first + (m : Int) ≤ 1 + (m : Int) * 1000) : Calls Tryd.prog 24 #[pt d 0] w fun e w' => ∃ (p : Nat) (S' : Nat → Prop), e = .returned (.tuple #[pt p 0, .int .i64 0]) ∧ PtF S' w' d m p l2 l2.length l2.length (bB l2) ∧ Grew S S' w w' := by
  rw [cz_end hi, cut_all _ _ (bB_gd h2) hC] at h
  refine fwOpen w h hlo ht (open_new (first := first) (A := bB l) (bB_hd l2) (bB_txt l2) (Nat.le_refl _) (by have := h2.1; omega)) ?_ (bB_txt l2) (Nat.le_refl _) hm hf
  rw [List.take_length, List.drop_left]
/-- Not all of it is there: the log ahead of it is found. -/
theorem ft_open_old (w : World) (h : WlF S w d m first (bB l ++ cZ l2 C i) []) (hi : (bB l2).length ≤ i) (hlo : ∀ q, S q → 0 < q) (ht : Tab w) (hl : Sh l) (h2 : Sh l2) (hC : C < psz (bB l2)) (hm : m ≤ 800) (hf : first + (m : Int) ≤ 1 + (m : Int) * 1000) : Calls Tryd.prog 24 #[pt d 0] w fun e w' => ∃ (p : Nat) (E : List WSeg) (S' : Nat → Prop), e = .returned (.tuple #[pt p 0, .int .i64 0]) ∧ PtF S' w' d m p l l.length l.length E ∧ Grew S S' w w' := by
  rw [cz_end hi] at h
  obtain ⟨k1, q1, q2, q3⟩ := open_cut (first := first) (bB_hd l) (bB_txt l) (Nat.le_refl _) (by have := hl.1; omega) (bB_gd h2) (bB_hd l2) (bB_txt l2) (by have := h2.1; omega) hC
  exact (fwOpen w h hlo ht q1 (E := (bB l ++ cutA (bB l2) C).take k1) (List.drop_zero ..).symm q3 (Nat.le_refl _) hm hf).mono fun e x ⟨p, S', r1, r2, r3⟩ => ⟨p, _, S', r1, r2, r3⟩
end
theorem segN_val {first : Int} {n i : Nat} {y : Int} (h : (segN first n)[i]? = some y) : y = first + (i : Int) ∧ i < n := by
  have hl := (List.getElem?_eq_some_iff.1 h).1
  rw [segN_len] at hl
  rw [segN_get _ _ _ hl] at h
  exact ⟨(Option.some.inj h).symm, hl⟩
def shortT (v v2 : Value) (l l2 : List ByteArray) : Bool := shortP [⟨0, ⟨#[]⟩, v, l, 0⟩, ⟨0, ⟨#[]⟩, v2, l2, 0⟩]
theorem shortT_y {v v2 : Value} {l l2 : List ByteArray} (h : shortT v v2 l l2 = true) : Sh l ∧ Sh l2 := by
  unfold shortT shortP at h
  rw [List.all_eq_true] at h
  have h1 := of_decide_eq_true (h ⟨0, ⟨#[]⟩, v, l, 0⟩ (by simp))
  have h2 := of_decide_eq_true (h ⟨0, ⟨#[]⟩, v2, l2, 0⟩ (by simp))
  exact ⟨⟨h1.2.1, h1.2.2⟩, ⟨h2.2.1, h2.2.2⟩⟩
theorem torn_cases (v v2 : Value) (l l2 : List ByteArray) (C : Nat) : shortT v v2 l l2 = false ∨ (shortT v v2 l l2 = true ∧ psz (bB l2) ≤ C) ∨ (shortT v v2 l l2 = true ∧ C < psz (bB l2)) := by
  cases h : shortT v v2 l l2 with
  | false => exact .inl rfl
  | true => by_cases hc : psz (bB l2) ≤ C; exact .inr (.inl ⟨rfl, hc⟩); exact .inr (.inr ⟨rfl, by omega⟩)
theorem lo_pos {S : Nat → Prop} {n : Nat} (h : ∀ q, S q → n ≤ q) (hn : 0 < n) : ∀ q, S q → 0 < q := fun q hq => by have := h q hq; omega
end Go.Proofs.YtfiplhnplmadmaaDoor
