/- Package disk: Files, Crash. Conditions: at most 10^6 entries. -/
import Derived.Test.YtcnahhobppnbbaaDiskB
namespace Go.Proofs.Ytcnahhobppnbbaa
open Go.RowKit Go.PlainAid
set_option linter.unusedVariables false


theorem row_nnD {w : World} {B : Nat} {T : TypeId} {sz : Nat} {v : Value} {k : Nat} {xs : List Value} (h : w.ownsRow B T sz v k xs) (hk : 0 < k) : v ≠ .slice none 0 0 := by
  rintro rfl
  rcases h.2 with ⟨_, h1⟩ | ⟨g, cap, cur, h1, _⟩
  · have h0 := h.1; omega
  · simp at h1
def crStep (X : Int × Bool × (Int → Option FileM)) (p : PcT) : Int × Bool × (Int → Option FileM) :=
  (X.1 - (if X.1 < p.2 then X.1 else p.2), X.2.1 && ((if X.1 < p.2 then X.1 else p.2) == p.2), if 0 < (if X.1 < p.2 then X.1 else p.2) ∨ (p.2 = 0 ∧ X.2.1 = true) then putF X.2.2 p.1 ((getF X.2.2 p.1).1, (getF X.2.2 p.1).2.1 + (if X.1 < p.2 then X.1 else p.2), true) else X.2.2)
def crRun (n : Int) (fm : Int → Option FileM) (ps : List PcT) : Int × Bool × (Int → Option FileM) := ps.foldl crStep (if n < 0 then 0 else n, true, fm)
theorem crRun_at {n : Int} {fm : Int → Option FileM} {l : List PcT} {i : Nat} {y : PcT} {X : Int × Bool × (Int → Option FileM)} (hX : crRun n fm (l.take i) = X) (h : l[i]? = some y) : crRun n fm (l.take (i + 1)) = crStep X y := by
  rw [← hX, takeD_at h]; unfold crRun; rw [List.foldl_append]; rfl
section
variable {X : Int × Bool × (Int → Option FileM)} {y : PcT} {kp : Int}
theorem cr_l (hk : kp = if X.1 < y.2 then X.1 else y.2) : X.1 - kp = (crStep X y).1 := by subst hk; rfl
theorem cr_wf (h : X.2.1 = false) : false = (crStep X y).2.1 := by unfold crStep; simp [h]
theorem cr_w (h : X.2.1 = true) (hk : kp = if X.1 < y.2 then X.1 else y.2) : (kp == y.2) = (crStep X y).2.1 := by subst hk; unfold crStep; simp [h]
theorem cr_p (hk : kp = if X.1 < y.2 then X.1 else y.2) (h : 0 < kp ∨ (y.2 = 0 ∧ X.2.1 = true)) : putF X.2.2 y.1 ((getF X.2.2 y.1).1, (getF X.2.2 y.1).2.1 + kp, true) = (crStep X y).2.2 := by
  subst hk; unfold crStep; simp only [if_pos h]
theorem cr_n (hk : kp = if X.1 < y.2 then X.1 else y.2) (h : ¬ kp > 0) (h2 : ¬ y.2 = 0 ∨ X.2.1 = false) : X.2.2 = (crStep X y).2.2 := by
  subst hk; unfold crStep; simp only []; rw [if_neg]
  rintro (q | ⟨q, q2⟩)
  · exact h q
  · rcases h2 with h2 | h2
    · exact h2 q
    · rw [h2] at q2; cases q2
end
def trM (m : FileM) : Option FileM := if m.2.2 = true then some (m.1.take m.2.1.toNat, m.2) else none
def trF (fm : Int → Option FileM) : Int → Option FileM := fun k => (fm k).bind trM
def trP (fm : Int → Option FileM) (ks : List Int) (j : Nat) : Int → Option FileM := fun k => if k ∈ ks.take j then trF fm k else fm k
theorem not_before {ks : List Int} {j : Nat} {y : Int} (h : ks.Pairwise (· < ·)) (hy : ks[j]? = some y) : y ∉ ks.take j := by
  intro hm
  obtain ⟨i, hi, e⟩ := List.getElem_of_mem hm
  rw [List.length_take] at hi
  rw [List.getElem_take] at e
  obtain ⟨hj, e2⟩ := List.getElem?_eq_some_iff.1 hy
  have := (List.pairwise_iff_getElem.1 h) i j (by omega) hj (by omega)
  omega
theorem trP_get {fm : Int → Option FileM} {ks : List Int} {j : Nat} {y : Int} (h : KeysF fm ks) (hy : ks[j]? = some y) : getF (trP fm ks j) y = getF fm y ∧ fm y = some (getF fm y) := by
  have h1 := not_before h.1 hy
  refine ⟨by unfold getF trP; rw [if_neg h1], ?_⟩
  have h2 := (h.2 y).1 (List.mem_of_getElem? hy)
  unfold getF
  cases hf : fm y with
  | none => rw [hf] at h2; cases h2
  | some m => rfl
theorem trP_next {fm : Int → Option FileM} {ks : List Int} {j : Nat} {y : Int} (hy : ks[j]? = some y) {k : Int} : trP fm ks (j + 1) k = if k = y then trF fm y else trP fm ks j k := by
  unfold trP; rw [takeD_at hy]
  by_cases e : k = y
  · subst e; simp
  · simp [e]
theorem tr_del {g : Int → Option FileG} {fm : Int → Option FileM} {ks : List Int} {j : Nat} {y : Int} (hr : ∀ k, (g k).map (·.2) = trP fm ks j k) (h : KeysF fm ks) (hy : ks[j]? = some y) (hst : (getF fm y).2.2 = false) : ∀ k, ((fun b => if b = y then none else g b) k).map (·.2) = trP fm ks (j + 1) k := by
  intro k
  rw [trP_next hy]
  by_cases e : k = y
  · rw [if_pos e]; subst e; simp only [if_true]
    unfold trF; rw [(trP_get h hy).2]; simp [trM, hst]
  · rw [if_neg e]; simp only [if_neg e]; exact hr k
theorem tr_put {g : Int → Option FileG} {fm : Int → Option FileM} {ks : List Int} {j : Nat} {y : Int} {v : Value} (hr : ∀ k, (g k).map (·.2) = trP fm ks j k) (h : KeysF fm ks) (hy : ks[j]? = some y) (hst : (getF fm y).2.2 = true) : ∀ k, ((fun b => if b = y then some (v, (getF fm y).1.take (getF fm y).2.1.toNat, (getF fm y).2) else g b) k).map (·.2) = trP fm ks (j + 1) k := by
  intro k
  rw [trP_next hy]
  by_cases e : k = y
  · rw [if_pos e]; subst e; simp only [if_true]
    unfold trF; rw [(trP_get h hy).2]; simp [trM, hst]
  · rw [if_neg e]; simp only [if_neg e]; exact hr k
theorem trP_0 (fm : Int → Option FileM) (ks : List Int) : trP fm ks 0 = fm := by funext k; simp [trP]
theorem trP_end {fm : Int → Option FileM} {ks : List Int} {j : Nat} (h : KeysF fm ks) (hj : ks.length ≤ j) : trP fm ks j = trF fm := by
  funext k; unfold trP; rw [List.take_of_length_le hj]
  by_cases e : k ∈ ks
  · rw [if_pos e]
  · rw [if_neg e]
    have : fm k = none := by
      cases hf : fm k with
      | none => rfl
      | some m => exact absurd ((h.2 k).2 (by rw [hf]; rfl)) e
    unfold trF; rw [this]; rfl
def crS (s : DkS) (n : Int) : DkS := ⟨trF (crRun n s.fm s.ps).2.2, [], s.ser, s.boots + 1⟩
theorem bool3 {a b : Bool} (h : a = b) : b = a := h.symm

set_option maxRecDepth 100000 in
theorem dFiles_any (w0 : World) (S : Nat → Prop) (d : Nat) (M : Nat) (pv : Value) (g : Int → Option FileG) (c : Nat) (s : DkS) (w : World) (hbw : But S w0 w) (hO : DkP S w0.heap.size w d M pv g c s) (hc : c ≤ 1000000) :
    Calls Try.prog 23 #[pt d 0] w fun e w' => ∃ (ys : List Int) (u : Value), e = .returned (u) ∧ w'.ownsRow w.heap.size 3 1 u ys.length (ys.flatMap (intE .i64)) ∧ KeysF s.fm ys ∧ ys.length ≤ c ∧ DkP S w0.heap.size w' d M pv g c s ∧ But (S) w0 w' := by
 have hB0 := hbw
 have hz0 := hbw.size
 have hz0 := hbw.size
 have hl1 := hO.blk.lt
 have hl2 := hO.map.lt
 have hne3 := blk_ne_map hO.blk hO.map
 have hl4 := sl_len (row_sl hO.row pieceE_len)
 refine co_enter (n := 29) Try.func23 rfl rfl rfl [(0, pt d 0)] rfl (fun a h0 => ?_)
 refine co_seq ?_
 refine co_reg ?_
 refine pk0 (v := .slice none 0 0) h0 rfl fun a5 h5 => ?_; clear h0
 refine pl_nil ?_
 refine co_then ?_
 refine co_seq ?_
 refine co_seq ?_
 refine co_reg ?_
 refine pk0 (v := pt d 0) h5 rfl fun a6 h6 => ?_; clear h5
 refine pw h6 rfl (op_call (args := #[pt d 0]) (R := fun res xw => res = .bool false ∧ w = xw) rfl rfl rfl (by kernel_rfl) (by kernel_rfl) (Try.call80 _ _) (dzero_any d M pv s.ser s.boots w hO.blk) (by rintro e x ⟨rfl, rfl⟩; exact ⟨_, rfl, ⟨rfl, rfl⟩⟩)) ?_; clear h6
 rintro _ _ a7 ⟨rfl, rfl⟩ h7
 refine pl_nil ?_
 refine co_then ?_
 refine co_false h7 rfl ?_
 refine wp_skip ?_
 refine co_then ?_
 refine co_seq ?_
 refine co_reg ?_
 refine pk0 (v := pt d 0) h7 rfl fun a10 h10 => ?_; clear h7
 refine pk0 (v := pt d 0) h10 rfl fun a11 h11 => ?_; clear h10
 refine pk0 (v := pt d 1) h11 rfl fun a12 h12 => ?_; clear h11
 refine pk (v := .map (some M)) h12 rfl (rn_load1 rfl rfl Try.isAgg44 (hO.blk.cell rfl)) fun a13 h13 => ?_; clear h12
 refine pw h13 rfl (op_lenO (ts := #[]) rfl rfl Try.underlying44 hO.map (by kernel_rfl) rfl) ?_; clear h13
 rintro _ _ a14 ⟨k16, rfl, hk17, rfl⟩ h14
 refine pw h14 rfl (op_makeOwn (base := w.heap.size) (enc := (intE .i64)) (k := k16) (by_ := 8) (z := .int .i64 0) (size := 1) rfl rfl rfl Try.underlying37 (by kernel_rfl) (by omega) (by unfold maxLen; omega) (Nat.le_refl _)) ?_; clear h14
 rintro _ w19 a18 ⟨N20, rfl, hN21, hr22, hg23⟩ h18
 have hz24 := hg23.size
 refine pk0 (v := .slice (some ⟨N20, 0, none⟩) 0 k16) h18 rfl fun a25 h25 => ?_; clear h18
 refine pl_nil ?_
 refine co_then ?_
 refine co_seq ?_
 refine co_seq ?_
 refine co_reg ?_
 refine pk0 (v := pt d 0) h25 rfl fun a26 h26 => ?_; clear h25
 refine pk0 (v := pt d 0) h26 rfl fun a27 h27 => ?_; clear h26
 refine pk0 (v := pt d 1) h27 rfl fun a28 h28 => ?_; clear h27
 have hk29 := hO.blk.kept hg23 (by simp)
 refine pk (v := .map (some M)) h28 rfl (rn_load1 rfl rfl Try.isAgg44 (hk29.cell rfl)) fun a30 h30 => ?_; clear h28
 have hM41 := hO.map.kept hg23 (by simp)
 refine pw h30 rfl (op_rangeO (0 : Int) rfl rfl Try.underlying44 hM41) ?_; clear h30
 rintro _ w32 a31 ⟨r33, rfl, hN34, hz35, ⟨lt36, hI37, hfu38, hlc39⟩, hg40⟩ h31
 have hr43 := row_kept_new hO.row hg23
 have ha42 := row_fresh hr43 hN34
 have ha44 := row_fresh hr22 hN34
 have hz45 := hg40.size
 have hl46 := hI37.lt
 refine pl_nil ?_
 refine co_then ?_
 refine wp_block ?_
 have h47 : Slots 29 [(0, pt d 0), (3, .slice (some ⟨N20, 0, none⟩) 0 k16), (17, pt r33 0)] _ := h31.sub ⟨rfl, rfl, rfl, trivial⟩; clear h31
 refine co_loop (fun mm a x => ∃ (u : Value) (ks : List Int) (ls : List (Int × FileG)), Slots 29 [(0, pt d 0), (3, u), (17, pt r33 0)] a ∧ mm = ls.length ∧ ((ks ++ ls.map (·.1)).Perm (lt36.map (·.1))) ∧ (u ≠ .slice none 0 0) ∧ MapO intK fileV x M g c ∧ Fam S w0.heap.size x g ∧ x.ownsRow 0 124 2 pv s.ps.length (s.ps.flatMap pieceE) ∧ IterO intK fileV x r33 M ls ∧ x.ownsRow w.heap.size 3 1 u ks.length (ks.flatMap (intE .i64)) ∧ But (S) w0 x ∧ Blk x d 47 #[.bool true, .map (some M), pv, .int .i64 s.ser, .int .i64 s.boots]) (lt36.length) ?_ ?_
 have hM48 := hM41.kept hg40 (by simp)
 have hF49 := hO.fam.new hg23
 have hF50 := hF49.new hg40
 have hr51 := row_kept_new hr43 hg40
 have hr52 := row_kept_new hr22 hg40
 have hB53 := fbU_new hB0 hg23
 have hB54 := fbU_new hB53 hg40
 have hk55 := hk29.kept hg40 (by simp)
 · exact ⟨(.slice (some ⟨N20, 0, none⟩) 0 k16), [], lt36, h47.sub ⟨rfl, rfl, rfl, trivial⟩, rfl, by first | exact hP' | (rw [List.nil_append]), by first | (simp; done) | exact hnn', (fun_eq hM48 (by first | rfl | (funext b; rfl)) (by omega)), hF50, hr51, hI37, (row_eq hr52 (rfl)), hB54, hk55⟩
 · rintro k56 a57 w58 ⟨u, ks, ls, h57, rfl, hi59, hi60, hf61, hf62, hf63, hf64, hf65, hB66, hk67⟩
   have hz68 := hB66.size
   have hl69 := hk67.lt
   have hl70 := hf61.lt
   have hl71 := hf64.lt
   have hP : (ks ++ ls.map (·.1)).Perm (lt36.map (·.1)) := by assumption
   have hPl := hP.length_eq; simp only [List.length_append, List.length_map] at hPl
   refine co_seq ?_
   refine co_reg ?_
   refine pl_want h57 rfl rfl rfl (op_nextO rfl rfl hf64) ?_; clear h57
   rintro _ w73 a72 (⟨hnil82, rfl, rfl⟩ | ⟨p74, l75, l76, hleft77, rfl, hI78, hen79, hz80, hg81⟩) h72
   ·
    refine pk0 (v := .bool false) h72 rfl fun a83 h83 => ?_; clear h72
    refine pl_nil ?_
    refine co_then ?_
    refine co_seq ?_
    refine co_false h83 rfl ?_
    refine wp_exit ?_
    refine co_thenX ?_
    refine co_thenX ?_
    refine co_blockX ?_
    refine co_then ?_
    refine co_seq ?_
    refine co_reg ?_
    refine pk0 (v := u) h83 rfl fun a84 h84 => ?_; clear h83
    refine pw h84 rfl (op_call (args := #[u]) (R := fun res xw => res = .tuple #[] ∧ xw.ownsRow w.heap.size 3 1 u (srt ks).length ((srt ks).flatMap (intE .i64)) ∧ w58.grownBy xw (Value.ownBlock u)) rfl rfl rfl (by kernel_rfl) (by kernel_rfl) (Try.call82 _ _) (sortI_any u ks w.heap.size 3 w58 hf65 (by assumption) (by omega)) (by rintro e x ⟨rfl, h⟩; exact ⟨_, rfl, rfl, h⟩)) ?_; clear h84
    rintro _ w86 a85 ⟨rfl, hr87, hg88⟩ h85
    have hz89 := hg88.size
    have hle90 := srt_len ks
    refine pl_nil ?_
    refine co_then ?_
    refine co_seq ?_
    refine co_reg ?_
    refine pk0 (v := u) h85 rfl fun a91 h91 => ?_; clear h85
    refine pk0 (v := u) h91 rfl fun a92 h92 => ?_; clear h91
    refine pl_nil ?_
    refine co_then ?_
    refine wp_ret ?_
    refine co_ret1 h92 rfl rfl ?_
    have hk93 := hk67.kept hg88 (own_neT hf65 hk67 (by decide))
    have hM94 := hf61.kept hg88 (hf61.row hf65)
    have hr95 := row_kept_row hf63 hf65 hg88 (by decide)
    have hF96 := hf62.row hf65 (by decide) hg88
    have hB97 := fbU_row hB66 (InS.low hf65 (by omega)) hg88
    obtain rfl : ls = [] := hnil82
    exact ⟨_, _, rfl, (row_lows hr87 (by omega)), keys_of hO.rel hfu38 hP, by rw [srt_len]; simp at hPl; omega, ⟨hk93, hM94, hr95, hF96, hO.sd, hO.sM, hO.sp, hO.rel⟩, hB97⟩
   ·
    have hz98 := hg81.size
    have hl99 := hI78.lt
    have hln100 : ls.length = l75.length + l76.length + 1 := by rw [hleft77]; simp; omega
    have hla101 : (l75 ++ l76).length = l75.length + l76.length := List.length_append
    refine pk0 (v := .bool true) h72 rfl fun a102 h102 => ?_; clear h72
    refine pl_nil ?_
    refine co_then ?_
    refine co_seq ?_
    refine co_true h102 rfl ?_
    refine wp_skip ?_
    refine co_then ?_
    refine wp_block ?_
    refine co_seq ?_
    refine co_reg ?_
    refine pk (v := .tuple #[.int .i64 p74.1, .agg #[p74.2.1, .int .i64 p74.2.2.2.1, .bool p74.2.2.2.2]]) h102 rfl (rn_entry rfl rfl hen79) fun a103 h103 => ?_; clear h102
    refine pk0 (v := .int .i64 p74.1) h103 rfl fun a104 h104 => ?_; clear h103
    refine pk0 (v := .int .i64 p74.1) h104 rfl fun a105 h105 => ?_; clear h104
    refine pl_nil ?_
    refine co_then ?_
    refine co_reg ?_
    refine pk0 (v := u) h105 rfl fun a106 h106 => ?_; clear h105
    refine pk0 (v := .int .i64 p74.1) h106 rfl fun a107 h107 => ?_; clear h106
    refine pw h107 rfl (op_new (v := fun N => .slice (some ⟨N, 0, none⟩) 1 1) (T := 3) (cs := #[.int .i64 p74.1]) (by kernel_rfl) (by kernel_rfl) (by kernel_rfl)) ?_; clear h107
    rintro _ w109 a108 ⟨N110, rfl, hN113, hz114, hk112, hg111⟩ h108
    have hr116 := row_kept_at hf63 hg81 (ha42)
    have ha115 := row_fresh hr116 hN113
    have hu117 := row_under hr116 hN113
    have hr119 := row_kept_at hf65 hg81 ((hf64.row hf65).2)
    have ha118 := row_fresh hr119 hN113
    have hu120 := row_under hr119 hN113
    have hz121 := hg111.size
    try dsimp only at h108
    have hr128 := row_kept_new hr119 hg111
    refine pw h108 rfl (op_append rfl w.heap.size 3 (z := .int .i64 0) (size := 1) (bytes := 8) Try.underlying37 (by kernel_rfl) rfl rfl rfl hr128 rfl hk112 rfl (by kernel_rfl) (by first | omega | (simp only [List.length_nil, List.length_append, List.length_cons, List.length_take, List.length_drop]; omega)) (by first | omega | (simp only [List.length_nil, List.length_append, List.length_cons, List.length_take, List.length_drop]; omega)) (by omega)) ?_; clear h108
    rintro v124 w123 a122 ⟨hr125, hg126⟩ h122
    have hr125' : w123.ownsRow w.heap.size 3 1 v124 ((ks ++ [p74.1]).length) ((ks ++ [p74.1]).flatMap (intE .i64)) := row_push (y := p74.1) hr125 rfl rfl; clear hr125
    have hz129 := hg126.size
    refine pk0 (v := v124) h122 rfl fun a130 h130 => ?_; clear h122
    refine pl_nil ?_
    refine co_blockN ?_
    refine co_then ?_
    refine ⟨((l75 ++ l76).length), by omega, ?_⟩
    have hP' : ((ks ++ [p74.1]) ++ (l75 ++ l76).map (·.1)).Perm (lt36.map (·.1)) := by have hq := perm_snoc hP (L1 := l75.map (·.1)) (L2 := l76.map (·.1)) (p := p74.1) (by rw [hleft77]; simp); simpa using hq
    have hnn' := row_nnD hr125' (by simp)
    have hM131 := hf61.kept hg81 (by simp; omega)
    have hM132 := hM131.kept hg111 (by simp)
    have hM133 := hM132.kept hg126 (hM132.row hr128)
    have hF134 := hf62.iter hf64 hg81
    have hF135 := hF134.new hg111
    have hF136 := hF135.row hr128 (by decide) hg126
    have hr137 := row_kept_new hr116 hg111
    have hr138 := row_kept_row hr137 hr128 hg126 (by decide)
    have hI139 := hI78.kept hg111 (by simp) (by simp)
    have hI140 := hI139.kept hg126 (hI139.row hr128).1 (hI139.row hr128).2
    have hB141 := fbU_at hB66 hg81 (fun hlt => absurd hlt (by omega))
    have hB142 := fbU_new hB141 hg111
    have hB143 := fbU_row hB142 (InS.low hr128 (by omega)) hg126
    have hk144 := hk67.kept hg81 (by simp; omega)
    have hk145 := hk144.kept hg111 (by simp)
    have hk146 := hk145.kept hg126 (own_neT hr128 hk145 (by decide))
    exact ⟨v124, (ks ++ [p74.1]), (l75 ++ l76), h130.sub ⟨rfl, rfl, rfl, trivial⟩, rfl, by first | exact hP' | (rw [List.nil_append]), by first | (simp; done) | exact hnn', (fun_eq hM133 (by first | rfl | (funext b; rfl)) (by omega)), hF136, hr138, hI140, (row_eq hr125' (rfl)), hB143, hk146⟩
set_option maxRecDepth 100000 in
theorem dCrash_any (w0 : World) (S : Nat → Prop) (d : Nat) (M : Nat) (pv : Value) (g : Int → Option FileG) (c : Nat) (s : DkS) (n : Int) (w : World) (hbw : But S w0 w) (hO : DkP S w0.heap.size w d M pv g c s) (hc : c ≤ 100000) (hpl : s.ps.length ≤ 100000) (hbo : 0 ≤ s.boots ∧ s.boots ≤ 1000000) (hni : -9223372036854775808 ≤ n ∧ n ≤ 9223372036854775807) (hcr : ∀ (i : Nat) (X : Int × Bool × (Int → Option FileM)) (p : PcT), crRun n s.fm (s.ps.take i) = X → s.ps[i]? = some p → 0 ≤ p.2 ∧ 0 ≤ X.1 ∧ 0 ≤ (getF X.2.2 p.1).2.1 ∧ (getF X.2.2 p.1).2.1 + p.2 ≤ 1000000000000 ∧ X.1 ≤ 9223372036854775807) (hfin : ∀ k, 0 ≤ (getF (crRun n s.fm s.ps).2.2 k).2.1 ∧ (getF (crRun n s.fm s.ps).2.2 k).2.1 ≤ (getF (crRun n s.fm s.ps).2.2 k).1.length) :
    Calls Try.prog 25 #[pt d 0, .int .i64 n] w fun e w' => ∃ (pv' : Value) (g' : Int → Option FileG) (c' : Nat), e = .returned (.tuple #[]) ∧ DkP S w0.heap.size w' d M pv' g' c' (crS s n) ∧ c' ≤ 2 * c + 2 * s.ps.length ∧ But (S) w0 w' := by
 have hB0 := hbw
 have hz0 := hbw.size
 have hz0 := hbw.size
 have hl1 := hO.blk.lt
 have hl2 := hO.map.lt
 have hne3 := blk_ne_map hO.blk hO.map
 have hl4 := sl_len (row_sl hO.row pieceE_len)
 refine co_enter (n := 114) Try.func25 rfl rfl rfl [(0, pt d 0), (1, .int .i64 n)] rfl (fun a h0 => ?_)
 refine co_seq ?_
 refine co_seq ?_
 refine co_reg ?_
 refine pk0 (v := pt d 0) h0 rfl fun a5 h5 => ?_; clear h0
 refine pw h5 rfl (op_call (args := #[pt d 0]) (R := fun res xw => res = .bool false ∧ w = xw) rfl rfl rfl (by kernel_rfl) (by kernel_rfl) (Try.call80 _ _) (dzero_any d M pv s.ser s.boots w hO.blk) (by rintro e x ⟨rfl, rfl⟩; exact ⟨_, rfl, ⟨rfl, rfl⟩⟩)) ?_; clear h5
 rintro _ _ a6 ⟨rfl, rfl⟩ h6
 refine pl_nil ?_
 refine co_then ?_
 refine co_false h6 rfl ?_
 refine wp_skip ?_
 refine co_then ?_
 refine co_seq ?_
 refine co_reg ?_
 refine pk0 (v := .int .i64 n) h6 rfl fun a9 h9 => ?_; clear h6
 obtain ⟨kp10, hkp11⟩ : ∃ z : Int, z = (if n < 0 then 0 else n) := ⟨_, rfl⟩
 have hq12 : kp10 ≥ n ∧ kp10 ≥ 0 ∧ (kp10 = n ∨ kp10 = 0) := by rw [hkp11]; split <;> omega
 refine pk (v := .int .i64 kp10) h9 rfl (by rw [hkp11]; kernel_rfl) fun a13 h13 => ?_; clear h9
 refine pk0 (v := .int .i64 kp10) h13 rfl fun a14 h14 => ?_; clear h13
 refine pk0 (v := .bool true) h14 rfl fun a15 h15 => ?_; clear h14
 refine pl_nil ?_
 refine co_then ?_
 refine co_seq ?_
 refine co_seq ?_
 refine co_reg ?_
 refine pk0 (v := pt d 0) h15 rfl fun a16 h16 => ?_; clear h15
 refine pk0 (v := pt d 0) h16 rfl fun a17 h17 => ?_; clear h16
 refine pk0 (v := pt d 2) h17 rfl fun a18 h18 => ?_; clear h17
 refine pk (v := pv) h18 rfl (rn_load1 rfl rfl Try.isAgg45 (hO.blk.cell rfl)) fun a19 h19 => ?_; clear h18
 refine pk (v := .int .i64 ((s.ps.length : Nat) : Int)) h19 rfl (rn_lenOwn rfl rfl Try.underlying45 hO.row) fun a20 h20 => ?_; clear h19
 refine pk0 (v := .int .i64 0) h20 rfl fun a21 h21 => ?_; clear h20
 refine pl_nil ?_
 refine co_then ?_
 refine wp_block ?_
 have h22 : Slots 114 [(0, pt d 0), (4, .int .i64 kp10), (5, .bool true), (20, pv), (21, .int .i64 ((s.ps.length : Nat) : Int)), (22, .int .i64 0)] _ := h21.sub ⟨rfl, rfl, rfl, rfl, rfl, rfl, trivial⟩; clear h21
 refine co_loop (fun mm a x => ∃ (i : Nat) (X : Int × Bool × (Int → Option FileM)) (g1 : Int → Option FileG) (c1 : Nat), Slots 114 [(0, pt d 0), (4, .int .i64 X.1), (5, .bool X.2.1), (20, pv), (21, .int .i64 ((s.ps.length : Nat) : Int)), (22, .int .i64 ((i : Nat) : Int))] a ∧ mm = s.ps.length - i ∧ (i ≤ s.ps.length) ∧ (c1 ≤ c + i) ∧ (crRun n s.fm (s.ps.take i) = X) ∧ (∀ k, (g1 k).map (·.2) = X.2.2 k) ∧ MapO intK fileV x M g1 c1 ∧ x.ownsRow 0 124 2 pv s.ps.length (s.ps.flatMap pieceE) ∧ Fam S w0.heap.size x g1 ∧ But (S) w0 x ∧ Blk x d 47 #[.bool true, .map (some M), pv, .int .i64 s.ser, .int .i64 s.boots]) (s.ps.length - 0) ?_ ?_
 · exact ⟨0, (crRun n s.fm []), g, c, h22.sub ⟨rfl, (slot_eq rfl (congrArg (Value.int .i64) (by first | exact cr_l (by assumption) | assumption))), (slot_eq rfl (congrArg Value.bool (by first | rfl | exact cr_wf (by assumption) | exact cr_w (by assumption) (by assumption)))), rfl, rfl, (slot_eq rfl (congrArg (Value.int .i64) (by first | rfl | omega))), trivial⟩, rfl, by omega, by omega, by first | exact hX' | rfl, by first | exact hrl' | exact hO.rel, (fun_eq hO.map (by first | rfl | (funext b; rfl)) (by omega)), hO.row, hO.fam, hB0, hO.blk⟩
 · rintro k23 a24 w25 ⟨i, X, g1, c1, h24, rfl, hi26, hi27, hi28, hi29, hf30, hf31, hf32, hB33, hk34⟩
   have hz35 := hB33.size
   have hl36 := hk34.lt
   have hl37 := hf30.lt
   have hX : crRun n s.fm (s.ps.take i) = X := by assumption
   have hrl : ∀ k, (g1 k).map (·.2) = X.2.2 k := by assumption
   refine co_seq ?_
   refine co_reg ?_
   refine pk0 (v := .bool (decide (((i : Nat) : Int) < ((s.ps.length : Nat) : Int)))) h24 rfl fun a38 h38 => ?_; clear h24
   refine pl_nil ?_
   refine co_then ?_
   refine co_seq ?_
   cases hc39 : (decide (((i : Nat) : Int) < ((s.ps.length : Nat) : Int)))
   ·
    rw [hc39] at h38
    have hp40 : ¬ (((i : Nat) : Int) < ((s.ps.length : Nat) : Int)) := of_decide_eq_false hc39
    clear hc39
    refine co_false h38 rfl ?_
    refine wp_exit ?_
    refine co_thenX ?_
    refine co_thenX ?_
    refine co_blockX ?_
    refine co_then ?_
    refine co_seq ?_
    refine co_seq ?_
    refine co_reg ?_
    refine pk0 (v := pt d 0) h38 rfl fun a41 h41 => ?_; clear h38
    have hXz : crRun n s.fm s.ps = X := by have := hX; rwa [List.take_of_length_le (by omega)] at this
    refine pw h41 rfl (op_call (args := #[pt d 0]) (R := fun res xw => ∃ (ys : List Int) (u : Value), res = u ∧ xw.ownsRow w25.heap.size 3 1 u ys.length (ys.flatMap (intE .i64)) ∧ KeysF (⟨X.2.2, s.ps, s.ser, s.boots⟩ : DkS).fm ys ∧ ys.length ≤ c1 ∧ DkP S w0.heap.size xw d M pv g1 c1 (⟨X.2.2, s.ps, s.ser, s.boots⟩ : DkS) ∧ But (S) w0 xw) rfl rfl rfl (by kernel_rfl) (by kernel_rfl) (Try.call23 _ _) (dFiles_any w0 S d M pv g1 c1 (⟨X.2.2, s.ps, s.ser, s.boots⟩ : DkS) w25 hB33 ⟨hk34, hf30, hf31, hf32, hO.sd, hO.sM, hO.sp, hrl⟩ (by omega)) (by rintro e x ⟨ys, u, rfl, h1, h2, h5, h3, h4⟩; exact ⟨_, rfl, ys, u, rfl, h1, h2, h5, h3, h4⟩)) ?_; clear h41
    rintro u49 w43 a42 ⟨ys48, _, rfl, hr47, hK46, hyl50, hO44, hB45⟩ h42
    have hz51 := hB45.size
    have hl52 := hO44.blk.lt
    have hl53 := hO44.map.lt
    have hne54 := blk_ne_map hO44.blk hO44.map
    have hl55 := sl_len (row_sl hO44.row pieceE_len)
    have hl56 := sl_len (row_sl hr47 (intE_len .i64))
    refine pk (v := .int .i64 ((ys48.length : Nat) : Int)) h42 rfl (rn_lenOwn rfl rfl Try.underlying37 hr47) fun a57 h57 => ?_; clear h42
    refine pk0 (v := .int .i64 0) h57 rfl fun a58 h58 => ?_; clear h57
    refine pl_nil ?_
    refine co_then ?_
    refine wp_block ?_
    have hK2 : KeysF X.2.2 ys48 := hK46
    have h59 : Slots 114 [(0, pt d 0), (72, u49), (73, .int .i64 ((ys48.length : Nat) : Int)), (74, .int .i64 0)] _ := h58.sub ⟨rfl, rfl, rfl, rfl, trivial⟩; clear h58
    refine co_loop (fun mm a x => ∃ (j : Nat) (g2 : Int → Option FileG) (c2 : Nat), Slots 114 [(0, pt d 0), (72, u49), (73, .int .i64 ((ys48.length : Nat) : Int)), (74, .int .i64 ((j : Nat) : Int))] a ∧ mm = ys48.length - j ∧ (j ≤ ys48.length) ∧ (c2 ≤ c1 + j) ∧ (∀ k, (g2 k).map (·.2) = trP X.2.2 ys48 j k) ∧ MapO intK fileV x M g2 c2 ∧ x.ownsRow 0 124 2 pv s.ps.length (s.ps.flatMap pieceE) ∧ Fam S w0.heap.size x g2 ∧ x.ownsRow w25.heap.size 3 1 u49 ys48.length (ys48.flatMap (intE .i64)) ∧ But (S) w0 x ∧ Blk x d 47 #[.bool true, .map (some M), pv, .int .i64 s.ser, .int .i64 s.boots]) (ys48.length - 0) ?_ ?_
    · exact ⟨0, g1, c1, h59.sub ⟨rfl, rfl, rfl, (slot_eq rfl (congrArg (Value.int .i64) (by first | rfl | omega))), trivial⟩, rfl, by omega, by omega, by first | exact hrl2' | (rw [trP_0]; exact hO44.rel), (fun_eq hO44.map (by first | rfl | (funext b; rfl)) (by omega)), hO44.row, hO44.fam, hr47, hB45, hO44.blk⟩
    · rintro k60 a61 w62 ⟨j, g2, c2, h61, rfl, hi63, hi64, hi65, hf66, hf67, hf68, hf69, hB70, hk71⟩
      have hz72 := hB70.size
      have hl73 := hk71.lt
      have hl74 := hf66.lt
      have hrl2 : ∀ k, (g2 k).map (·.2) = trP X.2.2 ys48 j k := by assumption
      refine co_seq ?_
      refine co_reg ?_
      refine pk0 (v := .bool (decide (((j : Nat) : Int) < ((ys48.length : Nat) : Int)))) h61 rfl fun a75 h75 => ?_; clear h61
      refine pl_nil ?_
      refine co_then ?_
      refine co_seq ?_
      cases hc76 : (decide (((j : Nat) : Int) < ((ys48.length : Nat) : Int)))
      ·
       rw [hc76] at h75
       have hp77 : ¬ (((j : Nat) : Int) < ((ys48.length : Nat) : Int)) := of_decide_eq_false hc76
       clear hc76
       refine co_false h75 rfl ?_
       refine wp_exit ?_
       refine co_thenX ?_
       refine co_thenX ?_
       refine co_blockX ?_
       refine co_then ?_
       refine co_seq ?_
       refine co_reg ?_
       refine pk0 (v := pt d 0) h75 rfl fun a78 h78 => ?_; clear h75
       have hrz : ∀ k, (g2 k).map (·.2) = trF X.2.2 k := by have := hrl2; rwa [trP_end hK2 (by omega)] at this
       refine pw h78 rfl (op_call (args := #[pt d 0]) (R := fun res xw => res = .tuple #[] ∧ ∃ (pv : Value), DkP S w0.heap.size xw d M pv g2 c2 (forS (⟨trF X.2.2, s.ps, s.ser, s.boots⟩ : DkS)) ∧ But (S) w0 xw) rfl rfl rfl (by kernel_rfl) (by kernel_rfl) (Try.call81 _ _) (dforget_any w0 S d M pv g2 c2 (⟨trF X.2.2, s.ps, s.ser, s.boots⟩ : DkS) w62 hB70 ⟨hk71, hf66, hf67, hf68, hO44.sd, hO44.sM, hO44.sp, hrz⟩) (by rintro e x ⟨pv, rfl, h1, h2⟩; exact ⟨_, rfl, rfl, pv, h1, h2⟩)) ?_; clear h78
       rintro _ w80 a79 ⟨rfl, pv83, hO81, hB82⟩ h79
       have hz84 := hB82.size
       have hl85 := hO81.blk.lt
       have hl86 := hO81.map.lt
       have hne87 := blk_ne_map hO81.blk hO81.map
       have hl88 := sl_len (row_sl hO81.row pieceE_len)
       refine pl_nil ?_
       refine co_then ?_
       refine co_reg ?_
       refine pk0 (v := pt d 0) h79 rfl fun a89 h89 => ?_; clear h79
       refine pk0 (v := pt d 0) h89 rfl fun a90 h90 => ?_; clear h89
       refine pk0 (v := pt d 4) h90 rfl fun a91 h91 => ?_; clear h90
       refine pk (v := .int .i64 s.boots) h91 rfl (rn_load1 rfl rfl Try.isAgg3 (hO81.blk.cell rfl)) fun a92 h92 => ?_; clear h91
       refine pk (v := .int .i64 (s.boots + 1)) h92 rfl (rn_arith rfl rfl rfl rfl rfl rfl (IntWalk.i64_in _ (by omega))) fun a93 h93 => ?_; clear h92
       refine pk0 (v := pt d 0) h93 rfl fun a94 h94 => ?_; clear h93
       refine pk0 (v := pt d 4) h94 rfl fun a95 h95 => ?_; clear h94
       refine pwD h95 rfl (op_store1 rfl rfl rfl rfl Try.sizeOf3 hO81.blk rfl) ?_; clear h95
       rintro _ w97 a96 ⟨hk98, hz99, hg100⟩ h96
       have hk98' : Blk w97 d 47 #[.bool true, .map (some M), pv83, .int .i64 s.ser, .int .i64 (s.boots + 1)] := hk98; clear hk98
       have hz101 := hg100.size
       refine pl_nil ?_
       refine co_ret0n h96 rfl ?_
       have hM102 := hO81.map.kept hg100 (by simp; omega)
       have hr103 := row_kept_at hO81.row hg100 (own_neT hO81.row hO81.blk (by decide))
       have hF104 := hO81.fam.blk hO81.blk (by decide) hg100
       have hB105 := fbU_at hB82 hg100 (fun hlt => by rcases hO81.sd with hq | hq; exact hq; omega)
       exact ⟨_, _, _, rfl, by unfold crS; rw [hXz]; exact ⟨hk98', hM102, hr103, hF104, hO81.sd, hO81.sM, hO81.sp, hO81.rel⟩, by omega, hB105⟩
      ·
       rw [hc76] at h75
       have hp106 : ((j : Nat) : Int) < ((ys48.length : Nat) : Int) := of_decide_eq_true hc76
       clear hc76
       refine co_true h75 rfl ?_
       refine wp_skip ?_
       refine co_then ?_
       refine co_seq ?_
       refine wp_block ?_
       refine co_seq ?_
       refine co_reg ?_
       obtain ⟨y107, hy107⟩ : ∃ z, ys48[j]? = some z := ⟨_, List.getElem?_eq_getElem (by first | omega | (simp; done) | (simp; omega))⟩
       have oky107 := (fun (z : Int) (_ : z ∈ ys48) => trivial) _ (List.mem_of_getElem? hy107)
       have htp := trP_get hK2 hy107; have hfq := hfin y107; rw [hXz] at hfq; rw [← htp.1] at hfq
       refine pk (v := pt (blkOf u49) (offOf u49 + j * 1)) h75 rfl (rn_index rfl rfl rfl Try.underlying37 Try.sizeOf3 (row_sl hf69 (intE_len .i64)) (by omega) (by first | omega | (simp; done) | (simp; omega))) fun a108 h108 => ?_; clear h75
       refine pk (v := .int .i64 y107) h108 rfl (rn_load1 rfl rfl Try.isAgg3 ((sl_at (row_sl hf69 (intE_len .i64)) hy107) 0 _ rfl)) fun a109 h109 => ?_; clear h108
       refine pk0 (v := .int .i64 y107) h109 rfl fun a110 h110 => ?_; clear h109
       refine pl_nil ?_
       refine co_then ?_
       refine co_seq ?_
       refine co_reg ?_
       refine pk0 (v := pt d 0) h110 rfl fun a111 h111 => ?_; clear h110
       refine pk0 (v := pt d 0) h111 rfl fun a112 h112 => ?_; clear h111
       refine pk0 (v := pt d 1) h112 rfl fun a113 h113 => ?_; clear h112
       refine pk (v := .map (some M)) h113 rfl (rn_load1 rfl rfl Try.isAgg44 (hk71.cell rfl)) fun a114 h114 => ?_; clear h113
       refine pk0 (v := .int .i64 y107) h114 rfl fun a115 h115 => ?_; clear h114
       obtain ⟨f116, hf117⟩ : ∃ z, (g2 y107).getD fz = z := ⟨_, rfl⟩
       have hA118 := hf68.at hf117
       have hl119 := sl_len (row_sl hA118.1 u8E_len)
       have hgf120 := getF_eq hrl2 hf117
       have hgl121 : f116.2.1.length = (getF (trP X.2.2 ys48 j) y107).1.length := by rw [hgf120]
       have hgs122 : f116.2.2.1 = (getF (trP X.2.2 ys48 j) y107).2.1 := by rw [hgf120]
       refine pk (v := .agg #[f116.1, .int .i64 f116.2.2.1, .bool f116.2.2.2]) h115 rfl (rn_lookO (a := y107) (f := f116) (intKL Try.underlying3) rfl rfl rfl Try.underlying44 filez hf66 hf117) fun a123 h123 => ?_; clear h115
       refine pw h123 rfl (op_new (v := fun N => pt N 0) (T := 122) (cs := #[.slice none 0 0, .int .i64 0, .bool false]) (by kernel_rfl) (by kernel_rfl) (by kernel_rfl)) ?_; clear h123
       rintro _ w125 a124 ⟨N126, rfl, hN129, hz130, hk128, hg127⟩ h124
       have ha131 := row_fresh hf67 hN129
       have hu132 := row_under hf67 hN129
       have ha133 := row_fresh hf69 hN129
       have hu134 := row_under hf69 hN129
       have ha135 := row_fresh hA118.1 hN129
       have hu136 := row_under hA118.1 hN129
       have hz137 := hg127.size
       try dsimp only at h124
       have hr143 := row_kept_new hA118.1 hg127
       refine pwD h124 rfl (op_storeN rfl rfl rfl (all_cons (row_one hr143) (all_cons rfl (all_cons rfl all_nil))) (by kernel_rfl) hk128 rfl) ?_; clear h124
       rintro _ w139 a138 ⟨hk140, hz141, hg142⟩ h138
       have hk140' : Blk w139 N126 122 #[f116.1, .int .i64 f116.2.2.1, .bool f116.2.2.2] := hk140; clear hk140
       have hz144 := hg142.size
       refine pl_nil ?_
       refine co_then ?_
       refine co_seq ?_
       refine co_seq ?_
       refine co_reg ?_
       refine pk0 (v := pt N126 2) h138 rfl fun a145 h145 => ?_; clear h138
       refine pk (v := .bool f116.2.2.2) h145 rfl (rn_load1 rfl rfl Try.isAgg4 (hk140'.cell rfl)) fun a146 h146 => ?_; clear h145
       have hB148 := fbU_new hB70 hg127
       have hB149 := fbU_at hB148 hg142 (fun hlt => absurd hlt (by omega))
       have hk150 := hk71.kept hg127 (by simp)
       have hk151 := hk150.kept hg142 (by simp; omega)
       have hM152 := hf66.kept hg127 (by simp)
       have hM153 := hM152.kept hg142 (by simp; omega)
       have hr154 := row_kept_new hf67 hg127
       have hr155 := row_kept_at hr154 hg142 (ha131)
       have hF156 := hf68.new hg127
       have hF157 := hF156.blk hk128 (by decide) hg142
       have hr158 := row_kept_new hf69 hg127
       have hr159 := row_kept_at hr158 hg142 (ha133)
       cases hc147 : (f116.2.2.2)
       ·
        rw [hc147] at h146
        refine pk0 (v := .bool true) h146 rfl fun a160 h160 => ?_; clear h146
        refine pl_nil ?_
        refine co_then ?_
        refine co_true h160 rfl ?_
        refine co_seq ?_
        refine co_reg ?_
        refine pk0 (v := pt d 0) h160 rfl fun a161 h161 => ?_; clear h160
        refine pk0 (v := pt d 0) h161 rfl fun a162 h162 => ?_; clear h161
        refine pk0 (v := pt d 1) h162 rfl fun a163 h163 => ?_; clear h162
        refine pk (v := .map (some M)) h163 rfl (rn_load1 rfl rfl Try.isAgg44 (hk151.cell rfl)) fun a164 h164 => ?_; clear h163
        refine pk0 (v := .int .i64 y107) h164 rfl fun a165 h165 => ?_; clear h164
        refine pwD h165 rfl (op_deleteO (a := y107) (intKL Try.underlying3) rfl rfl rfl Try.underlying44 hM153) ?_; clear h165
        rintro _ w167 a166 ⟨hm168, hz169, hg170⟩ h166
        have hF171 := hF157.del y107
        have hz172 := hg170.size
        have hl173 := hm168.lt
        refine pl_nil ?_
        refine co_then ?_
        refine wp_exit ?_
        refine co_thenX ?_
        refine co_blockX ?_
        refine co_then ?_
        refine co_reg ?_
        refine pk (v := .int .i64 ((j + 1 : Nat) : Int)) h166 rfl (rn_arith' rfl rfl rfl rfl rfl rfl (IntWalk.i64_in _ (by omega)) (by omega)) fun a174 h174 => ?_; clear h166
        refine pk0 (v := .int .i64 ((j + 1 : Nat) : Int)) h174 rfl fun a175 h175 => ?_; clear h174
        refine pl_nil ?_
        refine co_then ?_
        refine ⟨(ys48.length - (j + 1)), by omega, ?_⟩
        have htb : (getF X.2.2 y107).2.2 = f116.2.2.2 := by rw [← htp.1, ← hgf120]
        have hrl2' : ∀ k, ((fun b => if b = y107 then none else g2 b) k).map (·.2) = trP X.2.2 ys48 (j + 1) k := by
          exact tr_del hrl2 hK2 hy107 (by rw [htb]; assumption)
        have hr176 := row_kept_at hr155 hg170 (hM153.row hr155)
        have hF177 := hF171.map hM153 hg170
        have hr178 := row_kept_at hr159 hg170 (hM153.row hr159)
        have hB179 := fbU_at hB149 hg170 (fun hlt => by rcases hO44.sM with hq | hq; exact hq; omega)
        have hk180 := hk151.kept hg170 (by simp; omega)
        exact ⟨j + 1, (fun b => if b = y107 then none else g2 b), c2, h175.sub ⟨rfl, rfl, rfl, rfl, trivial⟩, rfl, by omega, by omega, by first | exact hrl2' | (rw [trP_0]; exact hO44.rel), (fun_eq hm168 (by first | rfl | (funext b; rfl)) (by omega)), hr176, hF177, hr178, hB179, hk180⟩
       ·
        rw [hc147] at h146
        refine pk0 (v := .bool false) h146 rfl fun a181 h181 => ?_; clear h146
        refine pl_nil ?_
        refine co_then ?_
        refine co_false h181 rfl ?_
        refine wp_skip ?_
        refine co_then ?_
        refine co_seq ?_
        refine co_reg ?_
        refine pk0 (v := pt N126 0) h181 rfl fun a182 h182 => ?_; clear h181
        refine pk (v := f116.1) h182 rfl (rn_load1 rfl rfl Try.isAgg120 (hk140'.cell rfl)) fun a183 h183 => ?_; clear h182
        refine pk0 (v := pt N126 1) h183 rfl fun a184 h184 => ?_; clear h183
        refine pk (v := .int .i64 f116.2.2.1) h184 rfl (rn_load1 rfl rfl Try.isAgg3 (hk140'.cell rfl)) fun a185 h185 => ?_; clear h184
        have hr186 := row_kept_at hr143 hg142 (ha135)
        have hr187 := row_cut hr186 u8E_len ((f116.2.2.1).toNat) (by omega) (.inr trivial)
        refine pk (v := subV (f116.1) 0 ((f116.2.2.1).toNat) 1) h185 rfl (rn_sliceTo rfl rfl rfl Try.underlying120 Try.sizeOf5 (row_sl hr186 u8E_len) (by omega) (by omega)) fun a188 h188 => ?_; clear h185
        refine pk0 (v := pt N126 0) h188 rfl fun a189 h189 => ?_; clear h188
        refine pwD h189 rfl (op_store1 rfl rfl rfl (row_one hr187) Try.sizeOf120 hk140' rfl) ?_; clear h189
        rintro _ w191 a190 ⟨hk192, hz193, hg194⟩ h190
        have hk192' : Blk w191 N126 122 #[subV (f116.1) 0 ((f116.2.2.1).toNat) 1, .int .i64 f116.2.2.1, .bool f116.2.2.2] := hk192; clear hk192
        have hz195 := hg194.size
        refine pl_nil ?_
        refine co_then ?_
        refine dr_gen (fun x => But (S) w0 x ∧ Blk x d 47 #[.bool true, .map (some M), pv, .int .i64 s.ser, .int .i64 s.boots] ∧ Blk x N126 122 #[subV (f116.1) 0 ((f116.2.2.1).toNat) 1, .int .i64 f116.2.2.1, .bool f116.2.2.2]) (by kernel_rfl) (fun w196 hg197 => ?_) (fun w196 hg197 => ?_)
        ·
         have hz198 := hg197.size
         have hB199 := fbU_at hB149 hg194 (fun hlt => absurd hlt (by omega))
         have hB200 := fbU_new hB199 hg197
         have hk201 := hk151.kept hg194 (by simp; omega)
         have hk202 := hk201.kept hg197 (by simp)
         have hk203 := hk192'.kept hg197 (by simp)
         exact ⟨hB200, hk202, hk203⟩
        have hz204 := hg197.size
        have hB205 := fbU_at hB149 hg194 (fun hlt => absurd hlt (by omega))
        have hB206 := fbU_new hB205 hg197
        have hk207 := hk151.kept hg194 (by simp; omega)
        have hk208 := hk207.kept hg197 (by simp)
        have hk209 := hk192'.kept hg197 (by simp)
        refine dk0 0 (v := pt d 0) h190 rfl rfl ⟨hB206, hk208, hk209⟩ fun a210 h210 => ?_; clear h190
        refine dk0 1 (v := pt d 0) h210 rfl rfl ⟨hB206, hk208, hk209⟩ fun a211 h211 => ?_; clear h210
        refine dk0 2 (v := pt d 1) h211 rfl rfl ⟨hB206, hk208, hk209⟩ fun a212 h212 => ?_; clear h211
        refine dk 3 (v := .map (some M)) h212 rfl rfl ⟨hB206, hk208, hk209⟩ (fun x hx => (rn_load1 rfl rfl Try.isAgg44 (hx.2.1.cell rfl))) fun a213 h213 => ?_; clear h212
        refine dk0 4 (v := .int .i64 y107) h213 rfl rfl ⟨hB206, hk208, hk209⟩ fun a214 h214 => ?_; clear h213
        refine dk 5 (v := .agg #[subV (f116.1) 0 ((f116.2.2.1).toNat) 1, .int .i64 f116.2.2.1, .bool f116.2.2.2]) h214 rfl rfl ⟨hB206, hk208, hk209⟩ (fun x hx => (rn_loadN rfl rfl Try.underlying122 rfl (by kernel_rfl) hx.2.2.all)) fun a215 h215 => ?_; clear h214
        have hM221 := hM153.kept hg194 (by simp; omega)
        have hM222 := hM221.kept hg197 (by simp)
        refine d1D 6 h215 rfl rfl (op_updateO (a := y107) (v := (subV (f116.1) 0 ((f116.2.2.1).toNat) 1, f116.2.1.take ((f116.2.2.1).toNat), f116.2.2.1, f116.2.2.2)) (intKL Try.underlying3) rfl rfl rfl rfl Try.underlying44 hM222) ?_ ?_; clear h215
        ·
         rintro _ w217 ⟨hm218, hz219, hg220⟩
         have hr224 := row_kept_at hr186 hg194 (ha135)
         have hr225 := row_kept_new hr224 hg197
         have hF226 := hF157.blk hk140' (by decide) hg194
         have hF227 := hF226.new hg197
         have hr228 := row_kept_at hr187 hg194 (own_neT hr187 hk140' (by decide))
         have hr229 := row_kept_new hr228 hg197
         have hF223 := Fam.put (u := (subV (f116.1) 0 ((f116.2.2.1).toNat) 1)) (l := (f116.2.1.take ((f116.2.2.1).toNat))) (sf := f116.2.2.1) (b0 := f116.2.2.2) hF227 hf117 hr229 (cut_block hr225 _)
         have hz230 := hg220.size
         have hl231 := hm218.lt
         have hB232 := fbU_at hB206 hg220 (fun hlt => by rcases hO44.sM with hq | hq; exact hq; omega)
         have hk233 := hk208.kept hg220 (by simp; omega)
         have hk234 := hk209.kept hg220 (by simp; omega)
         exact ⟨hB232, hk233, hk234⟩
        rintro _ w217 a216 ⟨hm218, hz219, hg220⟩ h216
        have hr224 := row_kept_at hr186 hg194 (ha135)
        have hr225 := row_kept_new hr224 hg197
        have hF226 := hF157.blk hk140' (by decide) hg194
        have hF227 := hF226.new hg197
        have hr228 := row_kept_at hr187 hg194 (own_neT hr187 hk140' (by decide))
        have hr229 := row_kept_new hr228 hg197
        have hF223 := Fam.put (u := (subV (f116.1) 0 ((f116.2.2.1).toNat) 1)) (l := (f116.2.1.take ((f116.2.2.1).toNat))) (sf := f116.2.2.1) (b0 := f116.2.2.2) hF227 hf117 hr229 (cut_block hr225 _)
        have hz230 := hg220.size
        have hl231 := hm218.lt
        refine dr_done (by kernel_rfl) ?_
        refine co_blockN ?_
        refine co_then ?_
        refine co_reg ?_
        refine pk (v := .int .i64 ((j + 1 : Nat) : Int)) h216 rfl (rn_arith' rfl rfl rfl rfl rfl rfl (IntWalk.i64_in _ (by omega)) (by omega)) fun a232 h232 => ?_; clear h216
        refine pk0 (v := .int .i64 ((j + 1 : Nat) : Int)) h232 rfl fun a233 h233 => ?_; clear h232
        refine pl_nil ?_
        refine co_then ?_
        refine ⟨(ys48.length - (j + 1)), by omega, ?_⟩
        have htb : (getF X.2.2 y107).2.2 = f116.2.2.2 := by rw [← htp.1, ← hgf120]
        have hrl2' : ∀ k, ((fun b => if b = y107 then some (subV (f116.1) 0 ((f116.2.2.1).toNat) 1, f116.2.1.take ((f116.2.2.1).toNat), f116.2.2.1, f116.2.2.2) else g2 b) k).map (·.2) = trP X.2.2 ys48 (j + 1) k := by
          have hq := tr_put (v := subV f116.1 0 f116.2.2.1.toNat 1) hrl2 hK2 hy107 (by rw [htb]; assumption)
          rw [← htp.1, ← hgf120] at hq; exact hq
        have hr234 := row_kept_at hr155 hg194 (ha131)
        have hr235 := row_kept_new hr234 hg197
        have hr236 := row_kept_at hr235 hg220 (hM222.row hr235)
        have hF237 := hF223.map hM222 hg220
        have hr238 := row_kept_at hr159 hg194 (ha133)
        have hr239 := row_kept_new hr238 hg197
        have hr240 := row_kept_at hr239 hg220 (hM222.row hr239)
        have hB241 := fbU_at hB206 hg220 (fun hlt => by rcases hO44.sM with hq | hq; exact hq; omega)
        have hk242 := hk208.kept hg220 (by simp; omega)
        exact ⟨j + 1, (fun b => if b = y107 then some (subV (f116.1) 0 ((f116.2.2.1).toNat) 1, f116.2.1.take ((f116.2.2.1).toNat), f116.2.2.1, f116.2.2.2) else g2 b), c2 + 1, h233.sub ⟨rfl, rfl, rfl, rfl, trivial⟩, rfl, by omega, by omega, by first | exact hrl2' | (rw [trP_0]; exact hO44.rel), (fun_eq hm218 (by first | rfl | (funext b; rfl)) (by omega)), hr236, hF237, hr240, hB241, hk242⟩
   ·
    rw [hc39] at h38
    have hp243 : ((i : Nat) : Int) < ((s.ps.length : Nat) : Int) := of_decide_eq_true hc39
    clear hc39
    refine co_true h38 rfl ?_
    refine wp_skip ?_
    refine co_then ?_
    refine co_seq ?_
    refine wp_block ?_
    refine co_seq ?_
    refine co_reg ?_
    obtain ⟨y244, hy244⟩ : ∃ z, s.ps[i]? = some z := ⟨_, List.getElem?_eq_getElem (by first | omega | (simp; done) | (simp; omega))⟩
    have oky244 := (fun (z : PcT) (_ : z ∈ s.ps) => trivial) _ (List.mem_of_getElem? hy244)
    have hcq := hcr i X y244 hX hy244
    refine pk (v := pt (blkOf pv) (offOf pv + i * 2)) h38 rfl (rn_index rfl rfl rfl Try.underlying45 Try.sizeOf124 (row_sl hf31 pieceE_len) (by omega) (by first | omega | (simp; done) | (simp; omega))) fun a245 h245 => ?_; clear h38
    refine pk (v := .agg #[.int .i64 y244.1, .int .i64 y244.2]) h245 rfl (rn_loadN rfl rfl Try.underlying124 rfl (by kernel_rfl) (sl_at (row_sl hf31 pieceE_len) hy244)) fun a246 h246 => ?_; clear h245
    refine pw h246 rfl (op_new (v := fun N => pt N 0) (T := 124) (cs := #[.int .i64 0, .int .i64 0]) (by kernel_rfl) (by kernel_rfl) (by kernel_rfl)) ?_; clear h246
    rintro _ w248 a247 ⟨N249, rfl, hN252, hz253, hk251, hg250⟩ h247
    have ha254 := row_fresh hf31 hN252
    have hu255 := row_under hf31 hN252
    have hz256 := hg250.size
    try dsimp only at h247
    refine pwD h247 rfl (op_storeN rfl rfl rfl (by kernel_rfl) (by kernel_rfl) hk251 rfl) ?_; clear h247
    rintro _ w258 a257 ⟨hk259, hz260, hg261⟩ h257
    have hk259' : Blk w258 N249 124 #[.int .i64 y244.1, .int .i64 y244.2] := hk259; clear hk259
    have hz262 := hg261.size
    refine pl_nil ?_
    refine co_then ?_
    refine co_seq ?_
    refine co_reg ?_
    refine pk0 (v := pt N249 1) h257 rfl fun a263 h263 => ?_; clear h257
    refine pk (v := .int .i64 y244.2) h263 rfl (rn_load1 rfl rfl Try.isAgg3 (hk259'.cell rfl)) fun a264 h264 => ?_; clear h263
    refine pk0 (v := .int .i64 X.1) h264 rfl fun a265 h265 => ?_; clear h264
    obtain ⟨kp266, hkp267⟩ : ∃ z : Int, z = (if X.1 < y244.2 then X.1 else y244.2) := ⟨_, rfl⟩
    have hq268 : kp266 ≤ y244.2 ∧ kp266 ≤ X.1 ∧ (kp266 = y244.2 ∨ kp266 = X.1) := by rw [hkp267]; split <;> omega
    refine pk (v := .int .i64 kp266) h265 rfl (by rw [hkp267]; kernel_rfl) fun a269 h269 => ?_; clear h265
    refine pk0 (v := .int .i64 kp266) h269 rfl fun a270 h270 => ?_; clear h269
    refine pl_nil ?_
    refine co_then ?_
    refine co_seq ?_
    refine co_reg ?_
    refine pk0 (v := .int .i64 X.1) h270 rfl fun a271 h271 => ?_; clear h270
    refine pk0 (v := .int .i64 kp266) h271 rfl fun a272 h272 => ?_; clear h271
    refine pk (v := .int .i64 (X.1 - kp266)) h272 rfl (rn_arith rfl rfl rfl rfl rfl rfl (IntWalk.i64_in _ (by omega))) fun a273 h273 => ?_; clear h272
    refine pk0 (v := .int .i64 (X.1 - kp266)) h273 rfl fun a274 h274 => ?_; clear h273
    refine pl_nil ?_
    refine co_then ?_
    refine co_seq ?_
    refine co_seq ?_
    refine co_reg ?_
    refine pk0 (v := .int .i64 kp266) h274 rfl fun a275 h275 => ?_; clear h274
    refine pk0 (v := .bool (decide (kp266 > 0))) h275 rfl fun a276 h276 => ?_; clear h275
    refine pk0 (v := .bool (decide (kp266 > 0))) h276 rfl fun a277 h277 => ?_; clear h276
    have hB279 := fbU_new hB33 hg250
    have hB280 := fbU_at hB279 hg261 (fun hlt => absurd hlt (by omega))
    have hk281 := hk34.kept hg250 (by simp)
    have hk282 := hk281.kept hg261 (by simp; omega)
    have hM283 := hf30.kept hg250 (by simp)
    have hM284 := hM283.kept hg261 (by simp; omega)
    have hr285 := row_kept_new hf31 hg250
    have hr286 := row_kept_at hr285 hg261 (ha254)
    have hF287 := hf32.new hg250
    have hF288 := hF287.blk hk251 (by decide) hg261
    cases hc278 : (decide (kp266 > 0))
    ·
     rw [hc278] at h277
     have hp289 : ¬ (kp266 > 0) := of_decide_eq_false hc278
     clear hc278
     refine pk0 (v := pt N249 1) h277 rfl fun a290 h290 => ?_; clear h277
     refine pk (v := .int .i64 y244.2) h290 rfl (rn_load1 rfl rfl Try.isAgg3 (hk259'.cell rfl)) fun a291 h291 => ?_; clear h290
     refine pk0 (v := .bool (y244.2 == 0)) h291 rfl fun a292 h292 => ?_; clear h291
     refine pk0 (v := .bool (y244.2 == 0)) h292 rfl fun a293 h293 => ?_; clear h292
     cases hc294 : (y244.2 == 0)
     ·
      rw [hc294] at h293
      have hp295 : ¬ (y244.2 = 0) := by first | simpa using hc294 | simpa [and_assoc] using hc294
      clear hc294
      refine psk h293 rfl fun a296 h296 => ?_; clear h293
      refine pk0 (v := .bool false) h296 rfl fun a297 h297 => ?_; clear h296
      refine pk0 (v := .bool false) h297 rfl fun a298 h298 => ?_; clear h297
      refine pl_nil ?_
      refine co_then ?_
      refine co_false h298 rfl ?_
      refine wp_skip ?_
      refine co_then ?_
      refine co_reg ?_
      refine pk0 (v := .bool X.2.1) h298 rfl fun a299 h299 => ?_; clear h298
      refine pk0 (v := .bool X.2.1) h299 rfl fun a300 h300 => ?_; clear h299
      cases hc301 : (X.2.1)
      ·
       rw [hc301] at h300
       refine psk h300 rfl fun a302 h302 => ?_; clear h300
       refine psk h302 rfl fun a303 h303 => ?_; clear h302
       refine psk h303 rfl fun a304 h304 => ?_; clear h303
       refine psk h304 rfl fun a305 h305 => ?_; clear h304
       refine pk0 (v := .bool false) h305 rfl fun a306 h306 => ?_; clear h305
       refine pk0 (v := .bool false) h306 rfl fun a307 h307 => ?_; clear h306
       refine pl_nil ?_
       refine co_blockN ?_
       refine co_then ?_
       refine co_reg ?_
       refine pk (v := .int .i64 ((i + 1 : Nat) : Int)) h307 rfl (rn_arith' rfl rfl rfl rfl rfl rfl (IntWalk.i64_in _ (by omega)) (by omega)) fun a308 h308 => ?_; clear h307
       refine pk0 (v := .int .i64 ((i + 1 : Nat) : Int)) h308 rfl fun a309 h309 => ?_; clear h308
       refine pl_nil ?_
       refine co_then ?_
       refine ⟨(s.ps.length - (i + 1)), by omega, ?_⟩
       have hX' := crRun_at hX hy244
       have hrl' : ∀ k, (g1 k).map (·.2) = (crStep X y244).2.2 k := by
         rw [← cr_n hkp267 (by omega) (by first | exact .inl (by omega) | exact .inr (by assumption))]; exact hrl
       exact ⟨i + 1, (crStep X y244), g1, c1, h309.sub ⟨rfl, (slot_eq rfl (congrArg (Value.int .i64) (by first | exact cr_l (by assumption) | assumption))), (slot_eq rfl (congrArg Value.bool (by first | rfl | exact cr_wf (by assumption) | exact cr_w (by assumption) (by assumption)))), rfl, rfl, rfl, trivial⟩, rfl, by omega, by omega, by first | exact hX' | rfl, by first | exact hrl' | exact hO.rel, (fun_eq hM284 (by first | rfl | (funext b; rfl)) (by omega)), hr286, hF288, hB280, hk282⟩
      ·
       rw [hc301] at h300
       refine pk0 (v := .int .i64 kp266) h300 rfl fun a310 h310 => ?_; clear h300
       refine pk0 (v := pt N249 1) h310 rfl fun a311 h311 => ?_; clear h310
       refine pk (v := .int .i64 y244.2) h311 rfl (rn_load1 rfl rfl Try.isAgg3 (hk259'.cell rfl)) fun a312 h312 => ?_; clear h311
       refine pk0 (v := .bool (kp266 == y244.2)) h312 rfl fun a313 h313 => ?_; clear h312
       refine pk0 (v := .bool (kp266 == y244.2)) h313 rfl fun a314 h314 => ?_; clear h313
       refine pk0 (v := .bool (kp266 == y244.2)) h314 rfl fun a315 h315 => ?_; clear h314
       refine pl_nil ?_
       refine co_blockN ?_
       refine co_then ?_
       refine co_reg ?_
       refine pk (v := .int .i64 ((i + 1 : Nat) : Int)) h315 rfl (rn_arith' rfl rfl rfl rfl rfl rfl (IntWalk.i64_in _ (by omega)) (by omega)) fun a316 h316 => ?_; clear h315
       refine pk0 (v := .int .i64 ((i + 1 : Nat) : Int)) h316 rfl fun a317 h317 => ?_; clear h316
       refine pl_nil ?_
       refine co_then ?_
       refine ⟨(s.ps.length - (i + 1)), by omega, ?_⟩
       have hX' := crRun_at hX hy244
       have hrl' : ∀ k, (g1 k).map (·.2) = (crStep X y244).2.2 k := by
         rw [← cr_n hkp267 (by omega) (by first | exact .inl (by omega) | exact .inr (by assumption))]; exact hrl
       exact ⟨i + 1, (crStep X y244), g1, c1, h317.sub ⟨rfl, (slot_eq rfl (congrArg (Value.int .i64) (by first | exact cr_l (by assumption) | assumption))), (slot_eq rfl (congrArg Value.bool (by first | rfl | exact cr_wf (by assumption) | exact cr_w (by assumption) (by assumption)))), rfl, rfl, rfl, trivial⟩, rfl, by omega, by omega, by first | exact hX' | rfl, by first | exact hrl' | exact hO.rel, (fun_eq hM284 (by first | rfl | (funext b; rfl)) (by omega)), hr286, hF288, hB280, hk282⟩
     ·
      rw [hc294] at h293
      have hp318 : y244.2 = 0 := by first | simpa using hc294 | simpa [and_assoc] using hc294
      clear hc294
      refine pk0 (v := .bool X.2.1) h293 rfl fun a319 h319 => ?_; clear h293
      refine pk0 (v := .bool X.2.1) h319 rfl fun a320 h320 => ?_; clear h319
      refine pk0 (v := .bool X.2.1) h320 rfl fun a321 h321 => ?_; clear h320
      refine pl_nil ?_
      refine co_then ?_
      cases hc322 : (X.2.1)
      ·
       rw [hc322] at h321
       refine co_false h321 rfl ?_
       refine wp_skip ?_
       refine co_then ?_
       refine co_reg ?_
       refine pk0 (v := .bool false) h321 rfl fun a323 h323 => ?_; clear h321
       refine pk0 (v := .bool false) h323 rfl fun a324 h324 => ?_; clear h323
       refine psk h324 rfl fun a325 h325 => ?_; clear h324
       refine psk h325 rfl fun a326 h326 => ?_; clear h325
       refine psk h326 rfl fun a327 h327 => ?_; clear h326
       refine psk h327 rfl fun a328 h328 => ?_; clear h327
       refine pk0 (v := .bool false) h328 rfl fun a329 h329 => ?_; clear h328
       refine pk0 (v := .bool false) h329 rfl fun a330 h330 => ?_; clear h329
       refine pl_nil ?_
       refine co_blockN ?_
       refine co_then ?_
       refine co_reg ?_
       refine pk (v := .int .i64 ((i + 1 : Nat) : Int)) h330 rfl (rn_arith' rfl rfl rfl rfl rfl rfl (IntWalk.i64_in _ (by omega)) (by omega)) fun a331 h331 => ?_; clear h330
       refine pk0 (v := .int .i64 ((i + 1 : Nat) : Int)) h331 rfl fun a332 h332 => ?_; clear h331
       refine pl_nil ?_
       refine co_then ?_
       refine ⟨(s.ps.length - (i + 1)), by omega, ?_⟩
       have hX' := crRun_at hX hy244
       have hrl' : ∀ k, (g1 k).map (·.2) = (crStep X y244).2.2 k := by
         rw [← cr_n hkp267 (by omega) (by first | exact .inl (by omega) | exact .inr (by assumption))]; exact hrl
       exact ⟨i + 1, (crStep X y244), g1, c1, h332.sub ⟨rfl, (slot_eq rfl (congrArg (Value.int .i64) (by first | exact cr_l (by assumption) | assumption))), (slot_eq rfl (congrArg Value.bool (by first | rfl | exact cr_wf (by assumption) | exact cr_w (by assumption) (by assumption)))), rfl, rfl, rfl, trivial⟩, rfl, by omega, by omega, by first | exact hX' | rfl, by first | exact hrl' | exact hO.rel, (fun_eq hM284 (by first | rfl | (funext b; rfl)) (by omega)), hr286, hF288, hB280, hk282⟩
      ·
       rw [hc322] at h321
       refine co_true h321 rfl ?_
       refine co_seq ?_
       refine dr_gen (fun x => But (S) w0 x ∧ Blk x d 47 #[.bool true, .map (some M), pv, .int .i64 s.ser, .int .i64 s.boots] ∧ Blk x N249 124 #[.int .i64 y244.1, .int .i64 y244.2]) (by kernel_rfl) (fun w333 hg334 => ?_) (fun w333 hg334 => ?_)
       ·
        have hz335 := hg334.size
        have hB336 := fbU_new hB280 hg334
        have hk337 := hk282.kept hg334 (by simp)
        have hk338 := hk259'.kept hg334 (by simp)
        exact ⟨hB336, hk337, hk338⟩
       have hz339 := hg334.size
       have hB340 := fbU_new hB280 hg334
       have hk341 := hk282.kept hg334 (by simp)
       have hk342 := hk259'.kept hg334 (by simp)
       refine dk0 0 (v := pt d 0) h321 rfl rfl ⟨hB340, hk341, hk342⟩ fun a343 h343 => ?_; clear h321
       refine dk0 1 (v := pt d 0) h343 rfl rfl ⟨hB340, hk341, hk342⟩ fun a344 h344 => ?_; clear h343
       refine dk0 2 (v := pt d 1) h344 rfl rfl ⟨hB340, hk341, hk342⟩ fun a345 h345 => ?_; clear h344
       refine dk 3 (v := .map (some M)) h345 rfl rfl ⟨hB340, hk341, hk342⟩ (fun x hx => (rn_load1 rfl rfl Try.isAgg44 (hx.2.1.cell rfl))) fun a346 h346 => ?_; clear h345
       refine dk0 4 (v := pt N249 0) h346 rfl rfl ⟨hB340, hk341, hk342⟩ fun a347 h347 => ?_; clear h346
       refine dk 5 (v := .int .i64 y244.1) h347 rfl rfl ⟨hB340, hk341, hk342⟩ (fun x hx => (rn_load1 rfl rfl Try.isAgg3 (hx.2.2.cell rfl))) fun a348 h348 => ?_; clear h347
       refine dr_many [6, 7] (by kernel_rfl) (by simp) ⟨?_, ?_, trivial⟩
       ·
        have hF352 := hF288.new hg334
        have hM357 := hM284.kept hg334 (by simp)
        obtain ⟨f349, hf350⟩ : ∃ z, (g1 y244.1).getD fz = z := ⟨_, rfl⟩
        have hA351 := hF352.at hf350
        have hl353 := sl_len (row_sl hA351.1 u8E_len)
        have hgf354 := getF_eq hrl hf350
        have hgl355 : f349.2.1.length = (getF X.2.2 y244.1).1.length := by rw [hgf354]
        have hgs356 : f349.2.2.1 = (getF X.2.2 y244.1).2.1 := by rw [hgf354]
        refine dr_opVal (i := 6) (v := .agg #[f349.1, .int .i64 f349.2.2.1, .bool f349.2.2.2]) h348 rfl rfl rfl rfl (by kernel_rfl) rfl (rn_lookO (a := y244.1) (f := f349) (intKL Try.underlying3) rfl rfl rfl Try.underlying44 filez hM357 hf350) ⟨hB340, hk341, hk342⟩ (fun a358 h358 => ?_); clear h348
        refine d1 7 h358 rfl rfl (op_new (v := fun N => pt N 0) (T := 122) (cs := #[.slice none 0 0, .int .i64 0, .bool false]) (by kernel_rfl) (by kernel_rfl) (by kernel_rfl)) ?_ ?_; clear h358
        ·
         rintro _ w360 ⟨N361, rfl, hN364, hz365, hk363, hg362⟩
         have hr367 := row_kept_new hr286 hg334
         have ha366 := row_fresh hr367 hN364
         have hu368 := row_under hr367 hN364
         have ha369 := row_fresh hA351.1 hN364
         have hu370 := row_under hA351.1 hN364
         have hz371 := hg362.size
         have hB372 := fbU_new hB340 hg362
         have hk373 := hk341.kept hg362 (by simp)
         have hk374 := hk342.kept hg362 (by simp)
         exact ⟨hB372, hk373, hk374⟩
        rintro _ w360 a359 ⟨N361, rfl, hN364, hz365, hk363, hg362⟩ h359
        have hr367 := row_kept_new hr286 hg334
        have ha366 := row_fresh hr367 hN364
        have hu368 := row_under hr367 hN364
        have ha369 := row_fresh hA351.1 hN364
        have hu370 := row_under hA351.1 hN364
        have hz371 := hg362.size
        try dsimp only at h359
        have hB372 := fbU_new hB340 hg362
        have hk373 := hk341.kept hg362 (by simp)
        have hk374 := hk342.kept hg362 (by simp)
        have hr380 := row_kept_new hA351.1 hg362
        refine d1D 8 h359 rfl rfl (op_storeN rfl rfl rfl (all_cons (row_one hr380) (all_cons rfl (all_cons rfl all_nil))) (by kernel_rfl) hk363 rfl) ?_ ?_; clear h359
        ·
         rintro _ w376 ⟨hk377, hz378, hg379⟩
         have hk377' : Blk w376 N361 122 #[f349.1, .int .i64 f349.2.2.1, .bool f349.2.2.2] := hk377; clear hk377
         have hz381 := hg379.size
         have hB382 := fbU_at hB372 hg379 (fun hlt => absurd hlt (by omega))
         have hk383 := hk373.kept hg379 (by simp; omega)
         have hk384 := hk374.kept hg379 (by simp; omega)
         exact ⟨hB382, hk383, hk384⟩
        rintro _ w376 a375 ⟨hk377, hz378, hg379⟩ h375
        have hk377' : Blk w376 N361 122 #[f349.1, .int .i64 f349.2.2.1, .bool f349.2.2.2] := hk377; clear hk377
        have hz381 := hg379.size
        refine dr_done (by kernel_rfl) ?_
        refine co_then ?_
        refine co_seq ?_
        refine co_reg ?_
        refine pk0 (v := pt N361 1) h375 rfl fun a382 h382 => ?_; clear h375
        refine pk (v := .int .i64 f349.2.2.1) h382 rfl (rn_load1 rfl rfl Try.isAgg3 (hk377'.cell rfl)) fun a383 h383 => ?_; clear h382
        refine pk0 (v := .int .i64 kp266) h383 rfl fun a384 h384 => ?_; clear h383
        refine pk (v := .int .i64 (f349.2.2.1 + kp266)) h384 rfl (rn_arith rfl rfl rfl rfl rfl rfl (IntWalk.i64_in _ (by omega))) fun a385 h385 => ?_; clear h384
        refine pk0 (v := pt N361 1) h385 rfl fun a386 h386 => ?_; clear h385
        refine pwD h386 rfl (op_store1 rfl rfl rfl rfl Try.sizeOf3 hk377' rfl) ?_; clear h386
        rintro _ w388 a387 ⟨hk389, hz390, hg391⟩ h387
        have hk389' : Blk w388 N361 122 #[f349.1, .int .i64 (f349.2.2.1 + kp266), .bool f349.2.2.2] := hk389; clear hk389
        have hz392 := hg391.size
        refine pk0 (v := pt N361 2) h387 rfl fun a393 h393 => ?_; clear h387
        refine pwD h393 rfl (op_store1 rfl rfl rfl rfl Try.sizeOf4 hk389' rfl) ?_; clear h393
        rintro _ w395 a394 ⟨hk396, hz397, hg398⟩ h394
        have hk396' : Blk w395 N361 122 #[f349.1, .int .i64 (f349.2.2.1 + kp266), .bool true] := hk396; clear hk396
        have hz399 := hg398.size
        refine pl_nil ?_
        refine co_then ?_
        refine dr_gen (fun x => But (S) w0 x ∧ Blk x d 47 #[.bool true, .map (some M), pv, .int .i64 s.ser, .int .i64 s.boots] ∧ Blk x N249 124 #[.int .i64 y244.1, .int .i64 y244.2] ∧ Blk x N361 122 #[f349.1, .int .i64 (f349.2.2.1 + kp266), .bool true]) (by kernel_rfl) (fun w400 hg401 => ?_) (fun w400 hg401 => ?_)
        ·
         have hz402 := hg401.size
         have hB403 := fbU_at hB372 hg379 (fun hlt => absurd hlt (by omega))
         have hB404 := fbU_at hB403 hg391 (fun hlt => absurd hlt (by omega))
         have hB405 := fbU_at hB404 hg398 (fun hlt => absurd hlt (by omega))
         have hB406 := fbU_new hB405 hg401
         have hk407 := hk373.kept hg379 (by simp; omega)
         have hk408 := hk407.kept hg391 (by simp; omega)
         have hk409 := hk408.kept hg398 (by simp; omega)
         have hk410 := hk409.kept hg401 (by simp)
         have hk411 := hk374.kept hg379 (by simp; omega)
         have hk412 := hk411.kept hg391 (by simp; omega)
         have hk413 := hk412.kept hg398 (by simp; omega)
         have hk414 := hk413.kept hg401 (by simp)
         have hk415 := hk396'.kept hg401 (by simp)
         exact ⟨hB406, hk410, hk414, hk415⟩
        have hz416 := hg401.size
        have hB417 := fbU_at hB372 hg379 (fun hlt => absurd hlt (by omega))
        have hB418 := fbU_at hB417 hg391 (fun hlt => absurd hlt (by omega))
        have hB419 := fbU_at hB418 hg398 (fun hlt => absurd hlt (by omega))
        have hB420 := fbU_new hB419 hg401
        have hk421 := hk373.kept hg379 (by simp; omega)
        have hk422 := hk421.kept hg391 (by simp; omega)
        have hk423 := hk422.kept hg398 (by simp; omega)
        have hk424 := hk423.kept hg401 (by simp)
        have hk425 := hk374.kept hg379 (by simp; omega)
        have hk426 := hk425.kept hg391 (by simp; omega)
        have hk427 := hk426.kept hg398 (by simp; omega)
        have hk428 := hk427.kept hg401 (by simp)
        have hk429 := hk396'.kept hg401 (by simp)
        refine dk0 0 (v := pt d 0) h394 rfl rfl ⟨hB420, hk424, hk428, hk429⟩ fun a430 h430 => ?_; clear h394
        refine dk0 1 (v := pt d 0) h430 rfl rfl ⟨hB420, hk424, hk428, hk429⟩ fun a431 h431 => ?_; clear h430
        refine dk0 2 (v := pt d 1) h431 rfl rfl ⟨hB420, hk424, hk428, hk429⟩ fun a432 h432 => ?_; clear h431
        refine dk 3 (v := .map (some M)) h432 rfl rfl ⟨hB420, hk424, hk428, hk429⟩ (fun x hx => (rn_load1 rfl rfl Try.isAgg44 (hx.2.1.cell rfl))) fun a433 h433 => ?_; clear h432
        refine dk0 4 (v := pt N249 0) h433 rfl rfl ⟨hB420, hk424, hk428, hk429⟩ fun a434 h434 => ?_; clear h433
        refine dk 5 (v := .int .i64 y244.1) h434 rfl rfl ⟨hB420, hk424, hk428, hk429⟩ (fun x hx => (rn_load1 rfl rfl Try.isAgg3 (hx.2.2.1.cell rfl))) fun a435 h435 => ?_; clear h434
        refine dk 6 (v := .agg #[f349.1, .int .i64 (f349.2.2.1 + kp266), .bool true]) h435 rfl rfl ⟨hB420, hk424, hk428, hk429⟩ (fun x hx => (rn_loadN rfl rfl Try.underlying122 rfl (by kernel_rfl) hx.2.2.2.all)) fun a436 h436 => ?_; clear h435
        have hM442 := hM357.kept hg362 (by simp)
        have hM443 := hM442.kept hg379 (by simp; omega)
        have hM444 := hM443.kept hg391 (by simp; omega)
        have hM445 := hM444.kept hg398 (by simp; omega)
        have hM446 := hM445.kept hg401 (by simp)
        refine d1D 7 h436 rfl rfl (op_updateO (a := y244.1) (v := (f349.1, f349.2.1, f349.2.2.1 + kp266, true)) (intKL Try.underlying3) rfl rfl rfl rfl Try.underlying44 hM446) ?_ ?_; clear h436
        ·
         rintro _ w438 ⟨hm439, hz440, hg441⟩
         have hF448 := hF352.new hg362
         have hF449 := hF448.blk hk363 (by decide) hg379
         have hF450 := hF449.blk hk377' (by decide) hg391
         have hF451 := hF450.blk hk389' (by decide) hg398
         have hF452 := hF451.new hg401
         have hr453 := row_kept_at hr380 hg379 (ha369)
         have hr454 := row_kept_at hr453 hg391 (ha369)
         have hr455 := row_kept_at hr454 hg398 (ha369)
         have hr456 := row_kept_new hr455 hg401
         have hF447 := Fam.put (u := (f349.1)) (l := f349.2.1) (sf := (f349.2.2.1 + kp266)) (b0 := true) hF452 hf350 hr456 rfl
         have hz457 := hg441.size
         have hl458 := hm439.lt
         have hB459 := fbU_at hB420 hg441 (fun hlt => by rcases hO.sM with hq | hq; exact hq; omega)
         have hk460 := hk424.kept hg441 (by simp; omega)
         have hk461 := hk428.kept hg441 (by simp; omega)
         have hk462 := hk429.kept hg441 (by simp; omega)
         exact ⟨hB459, hk460, hk461, hk462⟩
        rintro _ w438 a437 ⟨hm439, hz440, hg441⟩ h437
        have hF448 := hF352.new hg362
        have hF449 := hF448.blk hk363 (by decide) hg379
        have hF450 := hF449.blk hk377' (by decide) hg391
        have hF451 := hF450.blk hk389' (by decide) hg398
        have hF452 := hF451.new hg401
        have hr453 := row_kept_at hr380 hg379 (ha369)
        have hr454 := row_kept_at hr453 hg391 (ha369)
        have hr455 := row_kept_at hr454 hg398 (ha369)
        have hr456 := row_kept_new hr455 hg401
        have hF447 := Fam.put (u := (f349.1)) (l := f349.2.1) (sf := (f349.2.2.1 + kp266)) (b0 := true) hF452 hf350 hr456 rfl
        have hz457 := hg441.size
        have hl458 := hm439.lt
        refine dr_done (by kernel_rfl) ?_
        refine co_then ?_
        refine co_reg ?_
        refine pk0 (v := .bool true) h437 rfl fun a459 h459 => ?_; clear h437
        refine pk0 (v := .bool true) h459 rfl fun a460 h460 => ?_; clear h459
        refine pk0 (v := .int .i64 kp266) h460 rfl fun a461 h461 => ?_; clear h460
        refine pk0 (v := pt N249 1) h461 rfl fun a462 h462 => ?_; clear h461
        have hk463 := hk428.kept hg441 (by simp; omega)
        refine pk (v := .int .i64 y244.2) h462 rfl (rn_load1 rfl rfl Try.isAgg3 (hk463.cell rfl)) fun a464 h464 => ?_; clear h462
        refine pk0 (v := .bool (kp266 == y244.2)) h464 rfl fun a465 h465 => ?_; clear h464
        refine pk0 (v := .bool (kp266 == y244.2)) h465 rfl fun a466 h466 => ?_; clear h465
        refine pk0 (v := .bool (kp266 == y244.2)) h466 rfl fun a467 h467 => ?_; clear h466
        refine pl_nil ?_
        refine co_blockN ?_
        refine co_then ?_
        refine co_reg ?_
        refine pk (v := .int .i64 ((i + 1 : Nat) : Int)) h467 rfl (rn_arith' rfl rfl rfl rfl rfl rfl (IntWalk.i64_in _ (by omega)) (by omega)) fun a468 h468 => ?_; clear h467
        refine pk0 (v := .int .i64 ((i + 1 : Nat) : Int)) h468 rfl fun a469 h469 => ?_; clear h468
        refine pl_nil ?_
        refine co_then ?_
        refine ⟨(s.ps.length - (i + 1)), by omega, ?_⟩
        have hX' := crRun_at hX hy244
        have hrl' : ∀ k, ((fun b => if b = y244.1 then some (f349.1, f349.2.1, f349.2.2.1 + kp266, true) else g1 b) k).map (·.2) = (crStep X y244).2.2 k := by
          rw [← cr_p hkp267 (by first | exact .inl (by omega) | exact .inr ⟨by omega, by assumption⟩), ← hgf354]; exact putF_eq hrl
        have hr470 := row_kept_new hr367 hg362
        have hr471 := row_kept_at hr470 hg379 (ha366)
        have hr472 := row_kept_at hr471 hg391 (ha366)
        have hr473 := row_kept_at hr472 hg398 (ha366)
        have hr474 := row_kept_new hr473 hg401
        have hr475 := row_kept_at hr474 hg441 (hM446.row hr474)
        have hF476 := hF447.map hM446 hg441
        have hB477 := fbU_at hB420 hg441 (fun hlt => by rcases hO.sM with hq | hq; exact hq; omega)
        have hk478 := hk424.kept hg441 (by simp; omega)
        exact ⟨i + 1, (crStep X y244), (fun b => if b = y244.1 then some (f349.1, f349.2.1, f349.2.2.1 + kp266, true) else g1 b), c1 + 1, h469.sub ⟨rfl, (slot_eq rfl (congrArg (Value.int .i64) (by first | exact cr_l (by assumption) | assumption))), (slot_eq rfl (congrArg Value.bool (by first | rfl | exact cr_wf (by assumption) | exact cr_w (by assumption) (by assumption)))), rfl, rfl, rfl, trivial⟩, rfl, by omega, by omega, by first | exact hX' | rfl, by first | exact hrl' | exact hO.rel, (fun_eq hm439 (by first | rfl | (funext b; rfl)) (by omega)), hr475, hF476, hB477, hk478⟩
       ·
        refine dr_op (i := 7) h348 rfl rfl rfl rfl (op_new (v := fun N => pt N 0) (T := 122) (cs := #[.slice none 0 0, .int .i64 0, .bool false]) (by kernel_rfl) (by kernel_rfl) (by kernel_rfl)) ?_ ?_; clear h348
        ·
         rintro _ w480 ⟨N481, rfl, hN484, hz485, hk483, hg482⟩
         have hr487 := row_kept_new hr286 hg334
         have ha486 := row_fresh hr487 hN484
         have hu488 := row_under hr487 hN484
         have hz489 := hg482.size
         have hB490 := fbU_new hB340 hg482
         have hk491 := hk341.kept hg482 (by simp)
         have hk492 := hk342.kept hg482 (by simp)
         exact ⟨hB490, hk491, hk492⟩
        rintro _ w480 a479 ⟨N481, rfl, hN484, hz485, hk483, hg482⟩ h479
        have hr487 := row_kept_new hr286 hg334
        have ha486 := row_fresh hr487 hN484
        have hu488 := row_under hr487 hN484
        have hz489 := hg482.size
        try dsimp only at h479
        have hB490 := fbU_new hB340 hg482
        have hk491 := hk341.kept hg482 (by simp)
        have hk492 := hk342.kept hg482 (by simp)
        refine dr_many [6] (by kernel_rfl) (by simp) ⟨?_, trivial⟩
        ·
         have hF496 := hF288.new hg334
         have hF497 := hF496.new hg482
         have hM502 := hM284.kept hg334 (by simp)
         have hM503 := hM502.kept hg482 (by simp)
         obtain ⟨f493, hf494⟩ : ∃ z, (g1 y244.1).getD fz = z := ⟨_, rfl⟩
         have hA495 := hF497.at hf494
         have hl498 := sl_len (row_sl hA495.1 u8E_len)
         have hgf499 := getF_eq hrl hf494
         have hgl500 : f493.2.1.length = (getF X.2.2 y244.1).1.length := by rw [hgf499]
         have hgs501 : f493.2.2.1 = (getF X.2.2 y244.1).2.1 := by rw [hgf499]
         refine dr_opVal (i := 6) (v := .agg #[f493.1, .int .i64 f493.2.2.1, .bool f493.2.2.2]) h479 rfl rfl rfl rfl (by kernel_rfl) rfl (rn_lookO (a := y244.1) (f := f493) (intKL Try.underlying3) rfl rfl rfl Try.underlying44 filez hM503 hf494) ⟨hB490, hk491, hk492⟩ (fun a504 h504 => ?_); clear h479
         refine d1D 8 h504 rfl rfl (op_storeN rfl rfl rfl (all_cons (row_one hA495.1) (all_cons rfl (all_cons rfl all_nil))) (by kernel_rfl) hk483 rfl) ?_ ?_; clear h504
         ·
          rintro _ w506 ⟨hk507, hz508, hg509⟩
          have hk507' : Blk w506 N481 122 #[f493.1, .int .i64 f493.2.2.1, .bool f493.2.2.2] := hk507; clear hk507
          have hz510 := hg509.size
          have hB511 := fbU_at hB490 hg509 (fun hlt => absurd hlt (by omega))
          have hk512 := hk491.kept hg509 (by simp; omega)
          have hk513 := hk492.kept hg509 (by simp; omega)
          exact ⟨hB511, hk512, hk513⟩
         rintro _ w506 a505 ⟨hk507, hz508, hg509⟩ h505
         have hk507' : Blk w506 N481 122 #[f493.1, .int .i64 f493.2.2.1, .bool f493.2.2.2] := hk507; clear hk507
         have hz510 := hg509.size
         refine dr_done (by kernel_rfl) ?_
         refine co_then ?_
         refine co_seq ?_
         refine co_reg ?_
         refine pk0 (v := pt N481 1) h505 rfl fun a511 h511 => ?_; clear h505
         refine pk (v := .int .i64 f493.2.2.1) h511 rfl (rn_load1 rfl rfl Try.isAgg3 (hk507'.cell rfl)) fun a512 h512 => ?_; clear h511
         refine pk0 (v := .int .i64 kp266) h512 rfl fun a513 h513 => ?_; clear h512
         refine pk (v := .int .i64 (f493.2.2.1 + kp266)) h513 rfl (rn_arith rfl rfl rfl rfl rfl rfl (IntWalk.i64_in _ (by omega))) fun a514 h514 => ?_; clear h513
         refine pk0 (v := pt N481 1) h514 rfl fun a515 h515 => ?_; clear h514
         refine pwD h515 rfl (op_store1 rfl rfl rfl rfl Try.sizeOf3 hk507' rfl) ?_; clear h515
         rintro _ w517 a516 ⟨hk518, hz519, hg520⟩ h516
         have hk518' : Blk w517 N481 122 #[f493.1, .int .i64 (f493.2.2.1 + kp266), .bool f493.2.2.2] := hk518; clear hk518
         have hz521 := hg520.size
         refine pk0 (v := pt N481 2) h516 rfl fun a522 h522 => ?_; clear h516
         refine pwD h522 rfl (op_store1 rfl rfl rfl rfl Try.sizeOf4 hk518' rfl) ?_; clear h522
         rintro _ w524 a523 ⟨hk525, hz526, hg527⟩ h523
         have hk525' : Blk w524 N481 122 #[f493.1, .int .i64 (f493.2.2.1 + kp266), .bool true] := hk525; clear hk525
         have hz528 := hg527.size
         refine pl_nil ?_
         refine co_then ?_
         refine dr_gen (fun x => But (S) w0 x ∧ Blk x d 47 #[.bool true, .map (some M), pv, .int .i64 s.ser, .int .i64 s.boots] ∧ Blk x N249 124 #[.int .i64 y244.1, .int .i64 y244.2] ∧ Blk x N481 122 #[f493.1, .int .i64 (f493.2.2.1 + kp266), .bool true]) (by kernel_rfl) (fun w529 hg530 => ?_) (fun w529 hg530 => ?_)
         ·
          have hz531 := hg530.size
          have hB532 := fbU_at hB490 hg509 (fun hlt => absurd hlt (by omega))
          have hB533 := fbU_at hB532 hg520 (fun hlt => absurd hlt (by omega))
          have hB534 := fbU_at hB533 hg527 (fun hlt => absurd hlt (by omega))
          have hB535 := fbU_new hB534 hg530
          have hk536 := hk491.kept hg509 (by simp; omega)
          have hk537 := hk536.kept hg520 (by simp; omega)
          have hk538 := hk537.kept hg527 (by simp; omega)
          have hk539 := hk538.kept hg530 (by simp)
          have hk540 := hk492.kept hg509 (by simp; omega)
          have hk541 := hk540.kept hg520 (by simp; omega)
          have hk542 := hk541.kept hg527 (by simp; omega)
          have hk543 := hk542.kept hg530 (by simp)
          have hk544 := hk525'.kept hg530 (by simp)
          exact ⟨hB535, hk539, hk543, hk544⟩
         have hz545 := hg530.size
         have hB546 := fbU_at hB490 hg509 (fun hlt => absurd hlt (by omega))
         have hB547 := fbU_at hB546 hg520 (fun hlt => absurd hlt (by omega))
         have hB548 := fbU_at hB547 hg527 (fun hlt => absurd hlt (by omega))
         have hB549 := fbU_new hB548 hg530
         have hk550 := hk491.kept hg509 (by simp; omega)
         have hk551 := hk550.kept hg520 (by simp; omega)
         have hk552 := hk551.kept hg527 (by simp; omega)
         have hk553 := hk552.kept hg530 (by simp)
         have hk554 := hk492.kept hg509 (by simp; omega)
         have hk555 := hk554.kept hg520 (by simp; omega)
         have hk556 := hk555.kept hg527 (by simp; omega)
         have hk557 := hk556.kept hg530 (by simp)
         have hk558 := hk525'.kept hg530 (by simp)
         refine dk0 0 (v := pt d 0) h523 rfl rfl ⟨hB549, hk553, hk557, hk558⟩ fun a559 h559 => ?_; clear h523
         refine dk0 1 (v := pt d 0) h559 rfl rfl ⟨hB549, hk553, hk557, hk558⟩ fun a560 h560 => ?_; clear h559
         refine dk0 2 (v := pt d 1) h560 rfl rfl ⟨hB549, hk553, hk557, hk558⟩ fun a561 h561 => ?_; clear h560
         refine dk 3 (v := .map (some M)) h561 rfl rfl ⟨hB549, hk553, hk557, hk558⟩ (fun x hx => (rn_load1 rfl rfl Try.isAgg44 (hx.2.1.cell rfl))) fun a562 h562 => ?_; clear h561
         refine dk0 4 (v := pt N249 0) h562 rfl rfl ⟨hB549, hk553, hk557, hk558⟩ fun a563 h563 => ?_; clear h562
         refine dk 5 (v := .int .i64 y244.1) h563 rfl rfl ⟨hB549, hk553, hk557, hk558⟩ (fun x hx => (rn_load1 rfl rfl Try.isAgg3 (hx.2.2.1.cell rfl))) fun a564 h564 => ?_; clear h563
         refine dk 6 (v := .agg #[f493.1, .int .i64 (f493.2.2.1 + kp266), .bool true]) h564 rfl rfl ⟨hB549, hk553, hk557, hk558⟩ (fun x hx => (rn_loadN rfl rfl Try.underlying122 rfl (by kernel_rfl) hx.2.2.2.all)) fun a565 h565 => ?_; clear h564
         have hM571 := hM503.kept hg509 (by simp; omega)
         have hM572 := hM571.kept hg520 (by simp; omega)
         have hM573 := hM572.kept hg527 (by simp; omega)
         have hM574 := hM573.kept hg530 (by simp)
         refine d1D 7 h565 rfl rfl (op_updateO (a := y244.1) (v := (f493.1, f493.2.1, f493.2.2.1 + kp266, true)) (intKL Try.underlying3) rfl rfl rfl rfl Try.underlying44 hM574) ?_ ?_; clear h565
         ·
          rintro _ w567 ⟨hm568, hz569, hg570⟩
          have hF576 := hF497.blk hk483 (by decide) hg509
          have hF577 := hF576.blk hk507' (by decide) hg520
          have hF578 := hF577.blk hk518' (by decide) hg527
          have hF579 := hF578.new hg530
          have hr580 := row_kept_at hA495.1 hg509 (own_neT hA495.1 hk483 (by decide))
          have hr581 := row_kept_at hr580 hg520 (own_neT hr580 hk507' (by decide))
          have hr582 := row_kept_at hr581 hg527 (own_neT hr581 hk518' (by decide))
          have hr583 := row_kept_new hr582 hg530
          have hF575 := Fam.put (u := (f493.1)) (l := f493.2.1) (sf := (f493.2.2.1 + kp266)) (b0 := true) hF579 hf494 hr583 rfl
          have hz584 := hg570.size
          have hl585 := hm568.lt
          have hB586 := fbU_at hB549 hg570 (fun hlt => by rcases hO.sM with hq | hq; exact hq; omega)
          have hk587 := hk553.kept hg570 (by simp; omega)
          have hk588 := hk557.kept hg570 (by simp; omega)
          have hk589 := hk558.kept hg570 (by simp; omega)
          exact ⟨hB586, hk587, hk588, hk589⟩
         rintro _ w567 a566 ⟨hm568, hz569, hg570⟩ h566
         have hF576 := hF497.blk hk483 (by decide) hg509
         have hF577 := hF576.blk hk507' (by decide) hg520
         have hF578 := hF577.blk hk518' (by decide) hg527
         have hF579 := hF578.new hg530
         have hr580 := row_kept_at hA495.1 hg509 (own_neT hA495.1 hk483 (by decide))
         have hr581 := row_kept_at hr580 hg520 (own_neT hr580 hk507' (by decide))
         have hr582 := row_kept_at hr581 hg527 (own_neT hr581 hk518' (by decide))
         have hr583 := row_kept_new hr582 hg530
         have hF575 := Fam.put (u := (f493.1)) (l := f493.2.1) (sf := (f493.2.2.1 + kp266)) (b0 := true) hF579 hf494 hr583 rfl
         have hz584 := hg570.size
         have hl585 := hm568.lt
         refine dr_done (by kernel_rfl) ?_
         refine co_then ?_
         refine co_reg ?_
         refine pk0 (v := .bool true) h566 rfl fun a586 h586 => ?_; clear h566
         refine pk0 (v := .bool true) h586 rfl fun a587 h587 => ?_; clear h586
         refine pk0 (v := .int .i64 kp266) h587 rfl fun a588 h588 => ?_; clear h587
         refine pk0 (v := pt N249 1) h588 rfl fun a589 h589 => ?_; clear h588
         have hk590 := hk557.kept hg570 (by simp; omega)
         refine pk (v := .int .i64 y244.2) h589 rfl (rn_load1 rfl rfl Try.isAgg3 (hk590.cell rfl)) fun a591 h591 => ?_; clear h589
         refine pk0 (v := .bool (kp266 == y244.2)) h591 rfl fun a592 h592 => ?_; clear h591
         refine pk0 (v := .bool (kp266 == y244.2)) h592 rfl fun a593 h593 => ?_; clear h592
         refine pk0 (v := .bool (kp266 == y244.2)) h593 rfl fun a594 h594 => ?_; clear h593
         refine pl_nil ?_
         refine co_blockN ?_
         refine co_then ?_
         refine co_reg ?_
         refine pk (v := .int .i64 ((i + 1 : Nat) : Int)) h594 rfl (rn_arith' rfl rfl rfl rfl rfl rfl (IntWalk.i64_in _ (by omega)) (by omega)) fun a595 h595 => ?_; clear h594
         refine pk0 (v := .int .i64 ((i + 1 : Nat) : Int)) h595 rfl fun a596 h596 => ?_; clear h595
         refine pl_nil ?_
         refine co_then ?_
         refine ⟨(s.ps.length - (i + 1)), by omega, ?_⟩
         have hX' := crRun_at hX hy244
         have hrl' : ∀ k, ((fun b => if b = y244.1 then some (f493.1, f493.2.1, f493.2.2.1 + kp266, true) else g1 b) k).map (·.2) = (crStep X y244).2.2 k := by
           rw [← cr_p hkp267 (by first | exact .inl (by omega) | exact .inr ⟨by omega, by assumption⟩), ← hgf499]; exact putF_eq hrl
         have hr597 := row_kept_new hr487 hg482
         have hr598 := row_kept_at hr597 hg509 (ha486)
         have hr599 := row_kept_at hr598 hg520 (ha486)
         have hr600 := row_kept_at hr599 hg527 (ha486)
         have hr601 := row_kept_new hr600 hg530
         have hr602 := row_kept_at hr601 hg570 (hM574.row hr601)
         have hF603 := hF575.map hM574 hg570
         have hB604 := fbU_at hB549 hg570 (fun hlt => by rcases hO.sM with hq | hq; exact hq; omega)
         have hk605 := hk553.kept hg570 (by simp; omega)
         exact ⟨i + 1, (crStep X y244), (fun b => if b = y244.1 then some (f493.1, f493.2.1, f493.2.2.1 + kp266, true) else g1 b), c1 + 1, h596.sub ⟨rfl, (slot_eq rfl (congrArg (Value.int .i64) (by first | exact cr_l (by assumption) | assumption))), (slot_eq rfl (congrArg Value.bool (by first | rfl | exact cr_wf (by assumption) | exact cr_w (by assumption) (by assumption)))), rfl, rfl, rfl, trivial⟩, rfl, by omega, by omega, by first | exact hX' | rfl, by first | exact hrl' | exact hO.rel, (fun_eq hm568 (by first | rfl | (funext b; rfl)) (by omega)), hr602, hF603, hB604, hk605⟩
    ·
     rw [hc278] at h277
     have hp606 : kp266 > 0 := of_decide_eq_true hc278
     clear hc278
     refine psk h277 rfl fun a607 h607 => ?_; clear h277
     refine psk h607 rfl fun a608 h608 => ?_; clear h607
     refine psk h608 rfl fun a609 h609 => ?_; clear h608
     refine psk h609 rfl fun a610 h610 => ?_; clear h609
     refine psk h610 rfl fun a611 h611 => ?_; clear h610
     refine psk h611 rfl fun a612 h612 => ?_; clear h611
     refine pk0 (v := .bool true) h612 rfl fun a613 h613 => ?_; clear h612
     refine pl_nil ?_
     refine co_then ?_
     refine co_true h613 rfl ?_
     refine co_seq ?_
     refine dr_gen (fun x => But (S) w0 x ∧ Blk x d 47 #[.bool true, .map (some M), pv, .int .i64 s.ser, .int .i64 s.boots] ∧ Blk x N249 124 #[.int .i64 y244.1, .int .i64 y244.2]) (by kernel_rfl) (fun w614 hg615 => ?_) (fun w614 hg615 => ?_)
     ·
      have hz616 := hg615.size
      have hB617 := fbU_new hB280 hg615
      have hk618 := hk282.kept hg615 (by simp)
      have hk619 := hk259'.kept hg615 (by simp)
      exact ⟨hB617, hk618, hk619⟩
     have hz620 := hg615.size
     have hB621 := fbU_new hB280 hg615
     have hk622 := hk282.kept hg615 (by simp)
     have hk623 := hk259'.kept hg615 (by simp)
     refine dk0 0 (v := pt d 0) h613 rfl rfl ⟨hB621, hk622, hk623⟩ fun a624 h624 => ?_; clear h613
     refine dk0 1 (v := pt d 0) h624 rfl rfl ⟨hB621, hk622, hk623⟩ fun a625 h625 => ?_; clear h624
     refine dk0 2 (v := pt d 1) h625 rfl rfl ⟨hB621, hk622, hk623⟩ fun a626 h626 => ?_; clear h625
     refine dk 3 (v := .map (some M)) h626 rfl rfl ⟨hB621, hk622, hk623⟩ (fun x hx => (rn_load1 rfl rfl Try.isAgg44 (hx.2.1.cell rfl))) fun a627 h627 => ?_; clear h626
     refine dk0 4 (v := pt N249 0) h627 rfl rfl ⟨hB621, hk622, hk623⟩ fun a628 h628 => ?_; clear h627
     refine dk 5 (v := .int .i64 y244.1) h628 rfl rfl ⟨hB621, hk622, hk623⟩ (fun x hx => (rn_load1 rfl rfl Try.isAgg3 (hx.2.2.cell rfl))) fun a629 h629 => ?_; clear h628
     refine dr_many [6, 7] (by kernel_rfl) (by simp) ⟨?_, ?_, trivial⟩
     ·
      have hF633 := hF288.new hg615
      have hM638 := hM284.kept hg615 (by simp)
      obtain ⟨f630, hf631⟩ : ∃ z, (g1 y244.1).getD fz = z := ⟨_, rfl⟩
      have hA632 := hF633.at hf631
      have hl634 := sl_len (row_sl hA632.1 u8E_len)
      have hgf635 := getF_eq hrl hf631
      have hgl636 : f630.2.1.length = (getF X.2.2 y244.1).1.length := by rw [hgf635]
      have hgs637 : f630.2.2.1 = (getF X.2.2 y244.1).2.1 := by rw [hgf635]
      refine dr_opVal (i := 6) (v := .agg #[f630.1, .int .i64 f630.2.2.1, .bool f630.2.2.2]) h629 rfl rfl rfl rfl (by kernel_rfl) rfl (rn_lookO (a := y244.1) (f := f630) (intKL Try.underlying3) rfl rfl rfl Try.underlying44 filez hM638 hf631) ⟨hB621, hk622, hk623⟩ (fun a639 h639 => ?_); clear h629
      refine d1 7 h639 rfl rfl (op_new (v := fun N => pt N 0) (T := 122) (cs := #[.slice none 0 0, .int .i64 0, .bool false]) (by kernel_rfl) (by kernel_rfl) (by kernel_rfl)) ?_ ?_; clear h639
      ·
       rintro _ w641 ⟨N642, rfl, hN645, hz646, hk644, hg643⟩
       have hr648 := row_kept_new hr286 hg615
       have ha647 := row_fresh hr648 hN645
       have hu649 := row_under hr648 hN645
       have ha650 := row_fresh hA632.1 hN645
       have hu651 := row_under hA632.1 hN645
       have hz652 := hg643.size
       have hB653 := fbU_new hB621 hg643
       have hk654 := hk622.kept hg643 (by simp)
       have hk655 := hk623.kept hg643 (by simp)
       exact ⟨hB653, hk654, hk655⟩
      rintro _ w641 a640 ⟨N642, rfl, hN645, hz646, hk644, hg643⟩ h640
      have hr648 := row_kept_new hr286 hg615
      have ha647 := row_fresh hr648 hN645
      have hu649 := row_under hr648 hN645
      have ha650 := row_fresh hA632.1 hN645
      have hu651 := row_under hA632.1 hN645
      have hz652 := hg643.size
      try dsimp only at h640
      have hB653 := fbU_new hB621 hg643
      have hk654 := hk622.kept hg643 (by simp)
      have hk655 := hk623.kept hg643 (by simp)
      have hr661 := row_kept_new hA632.1 hg643
      refine d1D 8 h640 rfl rfl (op_storeN rfl rfl rfl (all_cons (row_one hr661) (all_cons rfl (all_cons rfl all_nil))) (by kernel_rfl) hk644 rfl) ?_ ?_; clear h640
      ·
       rintro _ w657 ⟨hk658, hz659, hg660⟩
       have hk658' : Blk w657 N642 122 #[f630.1, .int .i64 f630.2.2.1, .bool f630.2.2.2] := hk658; clear hk658
       have hz662 := hg660.size
       have hB663 := fbU_at hB653 hg660 (fun hlt => absurd hlt (by omega))
       have hk664 := hk654.kept hg660 (by simp; omega)
       have hk665 := hk655.kept hg660 (by simp; omega)
       exact ⟨hB663, hk664, hk665⟩
      rintro _ w657 a656 ⟨hk658, hz659, hg660⟩ h656
      have hk658' : Blk w657 N642 122 #[f630.1, .int .i64 f630.2.2.1, .bool f630.2.2.2] := hk658; clear hk658
      have hz662 := hg660.size
      refine dr_done (by kernel_rfl) ?_
      refine co_then ?_
      refine co_seq ?_
      refine co_reg ?_
      refine pk0 (v := pt N642 1) h656 rfl fun a663 h663 => ?_; clear h656
      refine pk (v := .int .i64 f630.2.2.1) h663 rfl (rn_load1 rfl rfl Try.isAgg3 (hk658'.cell rfl)) fun a664 h664 => ?_; clear h663
      refine pk0 (v := .int .i64 kp266) h664 rfl fun a665 h665 => ?_; clear h664
      refine pk (v := .int .i64 (f630.2.2.1 + kp266)) h665 rfl (rn_arith rfl rfl rfl rfl rfl rfl (IntWalk.i64_in _ (by omega))) fun a666 h666 => ?_; clear h665
      refine pk0 (v := pt N642 1) h666 rfl fun a667 h667 => ?_; clear h666
      refine pwD h667 rfl (op_store1 rfl rfl rfl rfl Try.sizeOf3 hk658' rfl) ?_; clear h667
      rintro _ w669 a668 ⟨hk670, hz671, hg672⟩ h668
      have hk670' : Blk w669 N642 122 #[f630.1, .int .i64 (f630.2.2.1 + kp266), .bool f630.2.2.2] := hk670; clear hk670
      have hz673 := hg672.size
      refine pk0 (v := pt N642 2) h668 rfl fun a674 h674 => ?_; clear h668
      refine pwD h674 rfl (op_store1 rfl rfl rfl rfl Try.sizeOf4 hk670' rfl) ?_; clear h674
      rintro _ w676 a675 ⟨hk677, hz678, hg679⟩ h675
      have hk677' : Blk w676 N642 122 #[f630.1, .int .i64 (f630.2.2.1 + kp266), .bool true] := hk677; clear hk677
      have hz680 := hg679.size
      refine pl_nil ?_
      refine co_then ?_
      refine dr_gen (fun x => But (S) w0 x ∧ Blk x d 47 #[.bool true, .map (some M), pv, .int .i64 s.ser, .int .i64 s.boots] ∧ Blk x N249 124 #[.int .i64 y244.1, .int .i64 y244.2] ∧ Blk x N642 122 #[f630.1, .int .i64 (f630.2.2.1 + kp266), .bool true]) (by kernel_rfl) (fun w681 hg682 => ?_) (fun w681 hg682 => ?_)
      ·
       have hz683 := hg682.size
       have hB684 := fbU_at hB653 hg660 (fun hlt => absurd hlt (by omega))
       have hB685 := fbU_at hB684 hg672 (fun hlt => absurd hlt (by omega))
       have hB686 := fbU_at hB685 hg679 (fun hlt => absurd hlt (by omega))
       have hB687 := fbU_new hB686 hg682
       have hk688 := hk654.kept hg660 (by simp; omega)
       have hk689 := hk688.kept hg672 (by simp; omega)
       have hk690 := hk689.kept hg679 (by simp; omega)
       have hk691 := hk690.kept hg682 (by simp)
       have hk692 := hk655.kept hg660 (by simp; omega)
       have hk693 := hk692.kept hg672 (by simp; omega)
       have hk694 := hk693.kept hg679 (by simp; omega)
       have hk695 := hk694.kept hg682 (by simp)
       have hk696 := hk677'.kept hg682 (by simp)
       exact ⟨hB687, hk691, hk695, hk696⟩
      have hz697 := hg682.size
      have hB698 := fbU_at hB653 hg660 (fun hlt => absurd hlt (by omega))
      have hB699 := fbU_at hB698 hg672 (fun hlt => absurd hlt (by omega))
      have hB700 := fbU_at hB699 hg679 (fun hlt => absurd hlt (by omega))
      have hB701 := fbU_new hB700 hg682
      have hk702 := hk654.kept hg660 (by simp; omega)
      have hk703 := hk702.kept hg672 (by simp; omega)
      have hk704 := hk703.kept hg679 (by simp; omega)
      have hk705 := hk704.kept hg682 (by simp)
      have hk706 := hk655.kept hg660 (by simp; omega)
      have hk707 := hk706.kept hg672 (by simp; omega)
      have hk708 := hk707.kept hg679 (by simp; omega)
      have hk709 := hk708.kept hg682 (by simp)
      have hk710 := hk677'.kept hg682 (by simp)
      refine dk0 0 (v := pt d 0) h675 rfl rfl ⟨hB701, hk705, hk709, hk710⟩ fun a711 h711 => ?_; clear h675
      refine dk0 1 (v := pt d 0) h711 rfl rfl ⟨hB701, hk705, hk709, hk710⟩ fun a712 h712 => ?_; clear h711
      refine dk0 2 (v := pt d 1) h712 rfl rfl ⟨hB701, hk705, hk709, hk710⟩ fun a713 h713 => ?_; clear h712
      refine dk 3 (v := .map (some M)) h713 rfl rfl ⟨hB701, hk705, hk709, hk710⟩ (fun x hx => (rn_load1 rfl rfl Try.isAgg44 (hx.2.1.cell rfl))) fun a714 h714 => ?_; clear h713
      refine dk0 4 (v := pt N249 0) h714 rfl rfl ⟨hB701, hk705, hk709, hk710⟩ fun a715 h715 => ?_; clear h714
      refine dk 5 (v := .int .i64 y244.1) h715 rfl rfl ⟨hB701, hk705, hk709, hk710⟩ (fun x hx => (rn_load1 rfl rfl Try.isAgg3 (hx.2.2.1.cell rfl))) fun a716 h716 => ?_; clear h715
      refine dk 6 (v := .agg #[f630.1, .int .i64 (f630.2.2.1 + kp266), .bool true]) h716 rfl rfl ⟨hB701, hk705, hk709, hk710⟩ (fun x hx => (rn_loadN rfl rfl Try.underlying122 rfl (by kernel_rfl) hx.2.2.2.all)) fun a717 h717 => ?_; clear h716
      have hM723 := hM638.kept hg643 (by simp)
      have hM724 := hM723.kept hg660 (by simp; omega)
      have hM725 := hM724.kept hg672 (by simp; omega)
      have hM726 := hM725.kept hg679 (by simp; omega)
      have hM727 := hM726.kept hg682 (by simp)
      refine d1D 7 h717 rfl rfl (op_updateO (a := y244.1) (v := (f630.1, f630.2.1, f630.2.2.1 + kp266, true)) (intKL Try.underlying3) rfl rfl rfl rfl Try.underlying44 hM727) ?_ ?_; clear h717
      ·
       rintro _ w719 ⟨hm720, hz721, hg722⟩
       have hF729 := hF633.new hg643
       have hF730 := hF729.blk hk644 (by decide) hg660
       have hF731 := hF730.blk hk658' (by decide) hg672
       have hF732 := hF731.blk hk670' (by decide) hg679
       have hF733 := hF732.new hg682
       have hr734 := row_kept_at hr661 hg660 (ha650)
       have hr735 := row_kept_at hr734 hg672 (ha650)
       have hr736 := row_kept_at hr735 hg679 (ha650)
       have hr737 := row_kept_new hr736 hg682
       have hF728 := Fam.put (u := (f630.1)) (l := f630.2.1) (sf := (f630.2.2.1 + kp266)) (b0 := true) hF733 hf631 hr737 rfl
       have hz738 := hg722.size
       have hl739 := hm720.lt
       have hB740 := fbU_at hB701 hg722 (fun hlt => by rcases hO.sM with hq | hq; exact hq; omega)
       have hk741 := hk705.kept hg722 (by simp; omega)
       have hk742 := hk709.kept hg722 (by simp; omega)
       have hk743 := hk710.kept hg722 (by simp; omega)
       exact ⟨hB740, hk741, hk742, hk743⟩
      rintro _ w719 a718 ⟨hm720, hz721, hg722⟩ h718
      have hF729 := hF633.new hg643
      have hF730 := hF729.blk hk644 (by decide) hg660
      have hF731 := hF730.blk hk658' (by decide) hg672
      have hF732 := hF731.blk hk670' (by decide) hg679
      have hF733 := hF732.new hg682
      have hr734 := row_kept_at hr661 hg660 (ha650)
      have hr735 := row_kept_at hr734 hg672 (ha650)
      have hr736 := row_kept_at hr735 hg679 (ha650)
      have hr737 := row_kept_new hr736 hg682
      have hF728 := Fam.put (u := (f630.1)) (l := f630.2.1) (sf := (f630.2.2.1 + kp266)) (b0 := true) hF733 hf631 hr737 rfl
      have hz738 := hg722.size
      have hl739 := hm720.lt
      refine dr_done (by kernel_rfl) ?_
      refine co_then ?_
      refine co_reg ?_
      refine pk0 (v := .bool X.2.1) h718 rfl fun a740 h740 => ?_; clear h718
      refine pk0 (v := .bool X.2.1) h740 rfl fun a741 h741 => ?_; clear h740
      have hB743 := fbU_at hB701 hg722 (fun hlt => by rcases hO.sM with hq | hq; exact hq; omega)
      have hr744 := row_kept_new hr648 hg643
      have hr745 := row_kept_at hr744 hg660 (ha647)
      have hr746 := row_kept_at hr745 hg672 (ha647)
      have hr747 := row_kept_at hr746 hg679 (ha647)
      have hr748 := row_kept_new hr747 hg682
      have hr749 := row_kept_at hr748 hg722 (hM727.row hr748)
      cases hc742 : (X.2.1)
      ·
       rw [hc742] at h741
       refine psk h741 rfl fun a750 h750 => ?_; clear h741
       refine psk h750 rfl fun a751 h751 => ?_; clear h750
       refine psk h751 rfl fun a752 h752 => ?_; clear h751
       refine psk h752 rfl fun a753 h753 => ?_; clear h752
       refine pk0 (v := .bool false) h753 rfl fun a754 h754 => ?_; clear h753
       refine pk0 (v := .bool false) h754 rfl fun a755 h755 => ?_; clear h754
       refine pl_nil ?_
       refine co_blockN ?_
       refine co_then ?_
       refine co_reg ?_
       refine pk (v := .int .i64 ((i + 1 : Nat) : Int)) h755 rfl (rn_arith' rfl rfl rfl rfl rfl rfl (IntWalk.i64_in _ (by omega)) (by omega)) fun a756 h756 => ?_; clear h755
       refine pk0 (v := .int .i64 ((i + 1 : Nat) : Int)) h756 rfl fun a757 h757 => ?_; clear h756
       refine pl_nil ?_
       refine co_then ?_
       refine ⟨(s.ps.length - (i + 1)), by omega, ?_⟩
       have hX' := crRun_at hX hy244
       have hrl' : ∀ k, ((fun b => if b = y244.1 then some (f630.1, f630.2.1, f630.2.2.1 + kp266, true) else g1 b) k).map (·.2) = (crStep X y244).2.2 k := by
         rw [← cr_p hkp267 (by first | exact .inl (by omega) | exact .inr ⟨by omega, by assumption⟩), ← hgf635]; exact putF_eq hrl
       have hF758 := hF728.map hM727 hg722
       have hk759 := hk705.kept hg722 (by simp; omega)
       exact ⟨i + 1, (crStep X y244), (fun b => if b = y244.1 then some (f630.1, f630.2.1, f630.2.2.1 + kp266, true) else g1 b), c1 + 1, h757.sub ⟨rfl, (slot_eq rfl (congrArg (Value.int .i64) (by first | exact cr_l (by assumption) | assumption))), (slot_eq rfl (congrArg Value.bool (by first | rfl | exact cr_wf (by assumption) | exact cr_w (by assumption) (by assumption)))), rfl, rfl, rfl, trivial⟩, rfl, by omega, by omega, by first | exact hX' | rfl, by first | exact hrl' | exact hO.rel, (fun_eq hm720 (by first | rfl | (funext b; rfl)) (by omega)), hr749, hF758, hB743, hk759⟩
      ·
       rw [hc742] at h741
       refine pk0 (v := .int .i64 kp266) h741 rfl fun a760 h760 => ?_; clear h741
       refine pk0 (v := pt N249 1) h760 rfl fun a761 h761 => ?_; clear h760
       have hk762 := hk709.kept hg722 (by simp; omega)
       refine pk (v := .int .i64 y244.2) h761 rfl (rn_load1 rfl rfl Try.isAgg3 (hk762.cell rfl)) fun a763 h763 => ?_; clear h761
       refine pk0 (v := .bool (kp266 == y244.2)) h763 rfl fun a764 h764 => ?_; clear h763
       refine pk0 (v := .bool (kp266 == y244.2)) h764 rfl fun a765 h765 => ?_; clear h764
       refine pk0 (v := .bool (kp266 == y244.2)) h765 rfl fun a766 h766 => ?_; clear h765
       refine pl_nil ?_
       refine co_blockN ?_
       refine co_then ?_
       refine co_reg ?_
       refine pk (v := .int .i64 ((i + 1 : Nat) : Int)) h766 rfl (rn_arith' rfl rfl rfl rfl rfl rfl (IntWalk.i64_in _ (by omega)) (by omega)) fun a767 h767 => ?_; clear h766
       refine pk0 (v := .int .i64 ((i + 1 : Nat) : Int)) h767 rfl fun a768 h768 => ?_; clear h767
       refine pl_nil ?_
       refine co_then ?_
       refine ⟨(s.ps.length - (i + 1)), by omega, ?_⟩
       have hX' := crRun_at hX hy244
       have hrl' : ∀ k, ((fun b => if b = y244.1 then some (f630.1, f630.2.1, f630.2.2.1 + kp266, true) else g1 b) k).map (·.2) = (crStep X y244).2.2 k := by
         rw [← cr_p hkp267 (by first | exact .inl (by omega) | exact .inr ⟨by omega, by assumption⟩), ← hgf635]; exact putF_eq hrl
       have hF769 := hF728.map hM727 hg722
       have hk770 := hk705.kept hg722 (by simp; omega)
       exact ⟨i + 1, (crStep X y244), (fun b => if b = y244.1 then some (f630.1, f630.2.1, f630.2.2.1 + kp266, true) else g1 b), c1 + 1, h768.sub ⟨rfl, (slot_eq rfl (congrArg (Value.int .i64) (by first | exact cr_l (by assumption) | assumption))), (slot_eq rfl (congrArg Value.bool (by first | rfl | exact cr_wf (by assumption) | exact cr_w (by assumption) (by assumption)))), rfl, rfl, rfl, trivial⟩, rfl, by omega, by omega, by first | exact hX' | rfl, by first | exact hrl' | exact hO.rel, (fun_eq hm720 (by first | rfl | (funext b; rfl)) (by omega)), hr749, hF769, hB743, hk770⟩
     ·
      refine dr_op (i := 7) h629 rfl rfl rfl rfl (op_new (v := fun N => pt N 0) (T := 122) (cs := #[.slice none 0 0, .int .i64 0, .bool false]) (by kernel_rfl) (by kernel_rfl) (by kernel_rfl)) ?_ ?_; clear h629
      ·
       rintro _ w772 ⟨N773, rfl, hN776, hz777, hk775, hg774⟩
       have hr779 := row_kept_new hr286 hg615
       have ha778 := row_fresh hr779 hN776
       have hu780 := row_under hr779 hN776
       have hz781 := hg774.size
       have hB782 := fbU_new hB621 hg774
       have hk783 := hk622.kept hg774 (by simp)
       have hk784 := hk623.kept hg774 (by simp)
       exact ⟨hB782, hk783, hk784⟩
      rintro _ w772 a771 ⟨N773, rfl, hN776, hz777, hk775, hg774⟩ h771
      have hr779 := row_kept_new hr286 hg615
      have ha778 := row_fresh hr779 hN776
      have hu780 := row_under hr779 hN776
      have hz781 := hg774.size
      try dsimp only at h771
      have hB782 := fbU_new hB621 hg774
      have hk783 := hk622.kept hg774 (by simp)
      have hk784 := hk623.kept hg774 (by simp)
      refine dr_many [6] (by kernel_rfl) (by simp) ⟨?_, trivial⟩
      ·
       have hF788 := hF288.new hg615
       have hF789 := hF788.new hg774
       have hM794 := hM284.kept hg615 (by simp)
       have hM795 := hM794.kept hg774 (by simp)
       obtain ⟨f785, hf786⟩ : ∃ z, (g1 y244.1).getD fz = z := ⟨_, rfl⟩
       have hA787 := hF789.at hf786
       have hl790 := sl_len (row_sl hA787.1 u8E_len)
       have hgf791 := getF_eq hrl hf786
       have hgl792 : f785.2.1.length = (getF X.2.2 y244.1).1.length := by rw [hgf791]
       have hgs793 : f785.2.2.1 = (getF X.2.2 y244.1).2.1 := by rw [hgf791]
       refine dr_opVal (i := 6) (v := .agg #[f785.1, .int .i64 f785.2.2.1, .bool f785.2.2.2]) h771 rfl rfl rfl rfl (by kernel_rfl) rfl (rn_lookO (a := y244.1) (f := f785) (intKL Try.underlying3) rfl rfl rfl Try.underlying44 filez hM795 hf786) ⟨hB782, hk783, hk784⟩ (fun a796 h796 => ?_); clear h771
       refine d1D 8 h796 rfl rfl (op_storeN rfl rfl rfl (all_cons (row_one hA787.1) (all_cons rfl (all_cons rfl all_nil))) (by kernel_rfl) hk775 rfl) ?_ ?_; clear h796
       ·
        rintro _ w798 ⟨hk799, hz800, hg801⟩
        have hk799' : Blk w798 N773 122 #[f785.1, .int .i64 f785.2.2.1, .bool f785.2.2.2] := hk799; clear hk799
        have hz802 := hg801.size
        have hB803 := fbU_at hB782 hg801 (fun hlt => absurd hlt (by omega))
        have hk804 := hk783.kept hg801 (by simp; omega)
        have hk805 := hk784.kept hg801 (by simp; omega)
        exact ⟨hB803, hk804, hk805⟩
       rintro _ w798 a797 ⟨hk799, hz800, hg801⟩ h797
       have hk799' : Blk w798 N773 122 #[f785.1, .int .i64 f785.2.2.1, .bool f785.2.2.2] := hk799; clear hk799
       have hz802 := hg801.size
       refine dr_done (by kernel_rfl) ?_
       refine co_then ?_
       refine co_seq ?_
       refine co_reg ?_
       refine pk0 (v := pt N773 1) h797 rfl fun a803 h803 => ?_; clear h797
       refine pk (v := .int .i64 f785.2.2.1) h803 rfl (rn_load1 rfl rfl Try.isAgg3 (hk799'.cell rfl)) fun a804 h804 => ?_; clear h803
       refine pk0 (v := .int .i64 kp266) h804 rfl fun a805 h805 => ?_; clear h804
       refine pk (v := .int .i64 (f785.2.2.1 + kp266)) h805 rfl (rn_arith rfl rfl rfl rfl rfl rfl (IntWalk.i64_in _ (by omega))) fun a806 h806 => ?_; clear h805
       refine pk0 (v := pt N773 1) h806 rfl fun a807 h807 => ?_; clear h806
       refine pwD h807 rfl (op_store1 rfl rfl rfl rfl Try.sizeOf3 hk799' rfl) ?_; clear h807
       rintro _ w809 a808 ⟨hk810, hz811, hg812⟩ h808
       have hk810' : Blk w809 N773 122 #[f785.1, .int .i64 (f785.2.2.1 + kp266), .bool f785.2.2.2] := hk810; clear hk810
       have hz813 := hg812.size
       refine pk0 (v := pt N773 2) h808 rfl fun a814 h814 => ?_; clear h808
       refine pwD h814 rfl (op_store1 rfl rfl rfl rfl Try.sizeOf4 hk810' rfl) ?_; clear h814
       rintro _ w816 a815 ⟨hk817, hz818, hg819⟩ h815
       have hk817' : Blk w816 N773 122 #[f785.1, .int .i64 (f785.2.2.1 + kp266), .bool true] := hk817; clear hk817
       have hz820 := hg819.size
       refine pl_nil ?_
       refine co_then ?_
       refine dr_gen (fun x => But (S) w0 x ∧ Blk x d 47 #[.bool true, .map (some M), pv, .int .i64 s.ser, .int .i64 s.boots] ∧ Blk x N249 124 #[.int .i64 y244.1, .int .i64 y244.2] ∧ Blk x N773 122 #[f785.1, .int .i64 (f785.2.2.1 + kp266), .bool true]) (by kernel_rfl) (fun w821 hg822 => ?_) (fun w821 hg822 => ?_)
       ·
        have hz823 := hg822.size
        have hB824 := fbU_at hB782 hg801 (fun hlt => absurd hlt (by omega))
        have hB825 := fbU_at hB824 hg812 (fun hlt => absurd hlt (by omega))
        have hB826 := fbU_at hB825 hg819 (fun hlt => absurd hlt (by omega))
        have hB827 := fbU_new hB826 hg822
        have hk828 := hk783.kept hg801 (by simp; omega)
        have hk829 := hk828.kept hg812 (by simp; omega)
        have hk830 := hk829.kept hg819 (by simp; omega)
        have hk831 := hk830.kept hg822 (by simp)
        have hk832 := hk784.kept hg801 (by simp; omega)
        have hk833 := hk832.kept hg812 (by simp; omega)
        have hk834 := hk833.kept hg819 (by simp; omega)
        have hk835 := hk834.kept hg822 (by simp)
        have hk836 := hk817'.kept hg822 (by simp)
        exact ⟨hB827, hk831, hk835, hk836⟩
       have hz837 := hg822.size
       have hB838 := fbU_at hB782 hg801 (fun hlt => absurd hlt (by omega))
       have hB839 := fbU_at hB838 hg812 (fun hlt => absurd hlt (by omega))
       have hB840 := fbU_at hB839 hg819 (fun hlt => absurd hlt (by omega))
       have hB841 := fbU_new hB840 hg822
       have hk842 := hk783.kept hg801 (by simp; omega)
       have hk843 := hk842.kept hg812 (by simp; omega)
       have hk844 := hk843.kept hg819 (by simp; omega)
       have hk845 := hk844.kept hg822 (by simp)
       have hk846 := hk784.kept hg801 (by simp; omega)
       have hk847 := hk846.kept hg812 (by simp; omega)
       have hk848 := hk847.kept hg819 (by simp; omega)
       have hk849 := hk848.kept hg822 (by simp)
       have hk850 := hk817'.kept hg822 (by simp)
       refine dk0 0 (v := pt d 0) h815 rfl rfl ⟨hB841, hk845, hk849, hk850⟩ fun a851 h851 => ?_; clear h815
       refine dk0 1 (v := pt d 0) h851 rfl rfl ⟨hB841, hk845, hk849, hk850⟩ fun a852 h852 => ?_; clear h851
       refine dk0 2 (v := pt d 1) h852 rfl rfl ⟨hB841, hk845, hk849, hk850⟩ fun a853 h853 => ?_; clear h852
       refine dk 3 (v := .map (some M)) h853 rfl rfl ⟨hB841, hk845, hk849, hk850⟩ (fun x hx => (rn_load1 rfl rfl Try.isAgg44 (hx.2.1.cell rfl))) fun a854 h854 => ?_; clear h853
       refine dk0 4 (v := pt N249 0) h854 rfl rfl ⟨hB841, hk845, hk849, hk850⟩ fun a855 h855 => ?_; clear h854
       refine dk 5 (v := .int .i64 y244.1) h855 rfl rfl ⟨hB841, hk845, hk849, hk850⟩ (fun x hx => (rn_load1 rfl rfl Try.isAgg3 (hx.2.2.1.cell rfl))) fun a856 h856 => ?_; clear h855
       refine dk 6 (v := .agg #[f785.1, .int .i64 (f785.2.2.1 + kp266), .bool true]) h856 rfl rfl ⟨hB841, hk845, hk849, hk850⟩ (fun x hx => (rn_loadN rfl rfl Try.underlying122 rfl (by kernel_rfl) hx.2.2.2.all)) fun a857 h857 => ?_; clear h856
       have hM863 := hM795.kept hg801 (by simp; omega)
       have hM864 := hM863.kept hg812 (by simp; omega)
       have hM865 := hM864.kept hg819 (by simp; omega)
       have hM866 := hM865.kept hg822 (by simp)
       refine d1D 7 h857 rfl rfl (op_updateO (a := y244.1) (v := (f785.1, f785.2.1, f785.2.2.1 + kp266, true)) (intKL Try.underlying3) rfl rfl rfl rfl Try.underlying44 hM866) ?_ ?_; clear h857
       ·
        rintro _ w859 ⟨hm860, hz861, hg862⟩
        have hF868 := hF789.blk hk775 (by decide) hg801
        have hF869 := hF868.blk hk799' (by decide) hg812
        have hF870 := hF869.blk hk810' (by decide) hg819
        have hF871 := hF870.new hg822
        have hr872 := row_kept_at hA787.1 hg801 (own_neT hA787.1 hk775 (by decide))
        have hr873 := row_kept_at hr872 hg812 (own_neT hr872 hk799' (by decide))
        have hr874 := row_kept_at hr873 hg819 (own_neT hr873 hk810' (by decide))
        have hr875 := row_kept_new hr874 hg822
        have hF867 := Fam.put (u := (f785.1)) (l := f785.2.1) (sf := (f785.2.2.1 + kp266)) (b0 := true) hF871 hf786 hr875 rfl
        have hz876 := hg862.size
        have hl877 := hm860.lt
        have hB878 := fbU_at hB841 hg862 (fun hlt => by rcases hO.sM with hq | hq; exact hq; omega)
        have hk879 := hk845.kept hg862 (by simp; omega)
        have hk880 := hk849.kept hg862 (by simp; omega)
        have hk881 := hk850.kept hg862 (by simp; omega)
        exact ⟨hB878, hk879, hk880, hk881⟩
       rintro _ w859 a858 ⟨hm860, hz861, hg862⟩ h858
       have hF868 := hF789.blk hk775 (by decide) hg801
       have hF869 := hF868.blk hk799' (by decide) hg812
       have hF870 := hF869.blk hk810' (by decide) hg819
       have hF871 := hF870.new hg822
       have hr872 := row_kept_at hA787.1 hg801 (own_neT hA787.1 hk775 (by decide))
       have hr873 := row_kept_at hr872 hg812 (own_neT hr872 hk799' (by decide))
       have hr874 := row_kept_at hr873 hg819 (own_neT hr873 hk810' (by decide))
       have hr875 := row_kept_new hr874 hg822
       have hF867 := Fam.put (u := (f785.1)) (l := f785.2.1) (sf := (f785.2.2.1 + kp266)) (b0 := true) hF871 hf786 hr875 rfl
       have hz876 := hg862.size
       have hl877 := hm860.lt
       refine dr_done (by kernel_rfl) ?_
       refine co_then ?_
       refine co_reg ?_
       refine pk0 (v := .bool X.2.1) h858 rfl fun a878 h878 => ?_; clear h858
       refine pk0 (v := .bool X.2.1) h878 rfl fun a879 h879 => ?_; clear h878
       have hB881 := fbU_at hB841 hg862 (fun hlt => by rcases hO.sM with hq | hq; exact hq; omega)
       have hr882 := row_kept_new hr779 hg774
       have hr883 := row_kept_at hr882 hg801 (ha778)
       have hr884 := row_kept_at hr883 hg812 (ha778)
       have hr885 := row_kept_at hr884 hg819 (ha778)
       have hr886 := row_kept_new hr885 hg822
       have hr887 := row_kept_at hr886 hg862 (hM866.row hr886)
       cases hc880 : (X.2.1)
       ·
        rw [hc880] at h879
        refine psk h879 rfl fun a888 h888 => ?_; clear h879
        refine psk h888 rfl fun a889 h889 => ?_; clear h888
        refine psk h889 rfl fun a890 h890 => ?_; clear h889
        refine psk h890 rfl fun a891 h891 => ?_; clear h890
        refine pk0 (v := .bool false) h891 rfl fun a892 h892 => ?_; clear h891
        refine pk0 (v := .bool false) h892 rfl fun a893 h893 => ?_; clear h892
        refine pl_nil ?_
        refine co_blockN ?_
        refine co_then ?_
        refine co_reg ?_
        refine pk (v := .int .i64 ((i + 1 : Nat) : Int)) h893 rfl (rn_arith' rfl rfl rfl rfl rfl rfl (IntWalk.i64_in _ (by omega)) (by omega)) fun a894 h894 => ?_; clear h893
        refine pk0 (v := .int .i64 ((i + 1 : Nat) : Int)) h894 rfl fun a895 h895 => ?_; clear h894
        refine pl_nil ?_
        refine co_then ?_
        refine ⟨(s.ps.length - (i + 1)), by omega, ?_⟩
        have hX' := crRun_at hX hy244
        have hrl' : ∀ k, ((fun b => if b = y244.1 then some (f785.1, f785.2.1, f785.2.2.1 + kp266, true) else g1 b) k).map (·.2) = (crStep X y244).2.2 k := by
          rw [← cr_p hkp267 (by first | exact .inl (by omega) | exact .inr ⟨by omega, by assumption⟩), ← hgf791]; exact putF_eq hrl
        have hF896 := hF867.map hM866 hg862
        have hk897 := hk845.kept hg862 (by simp; omega)
        exact ⟨i + 1, (crStep X y244), (fun b => if b = y244.1 then some (f785.1, f785.2.1, f785.2.2.1 + kp266, true) else g1 b), c1 + 1, h895.sub ⟨rfl, (slot_eq rfl (congrArg (Value.int .i64) (by first | exact cr_l (by assumption) | assumption))), (slot_eq rfl (congrArg Value.bool (by first | rfl | exact cr_wf (by assumption) | exact cr_w (by assumption) (by assumption)))), rfl, rfl, rfl, trivial⟩, rfl, by omega, by omega, by first | exact hX' | rfl, by first | exact hrl' | exact hO.rel, (fun_eq hm860 (by first | rfl | (funext b; rfl)) (by omega)), hr887, hF896, hB881, hk897⟩
       ·
        rw [hc880] at h879
        refine pk0 (v := .int .i64 kp266) h879 rfl fun a898 h898 => ?_; clear h879
        refine pk0 (v := pt N249 1) h898 rfl fun a899 h899 => ?_; clear h898
        have hk900 := hk849.kept hg862 (by simp; omega)
        refine pk (v := .int .i64 y244.2) h899 rfl (rn_load1 rfl rfl Try.isAgg3 (hk900.cell rfl)) fun a901 h901 => ?_; clear h899
        refine pk0 (v := .bool (kp266 == y244.2)) h901 rfl fun a902 h902 => ?_; clear h901
        refine pk0 (v := .bool (kp266 == y244.2)) h902 rfl fun a903 h903 => ?_; clear h902
        refine pk0 (v := .bool (kp266 == y244.2)) h903 rfl fun a904 h904 => ?_; clear h903
        refine pl_nil ?_
        refine co_blockN ?_
        refine co_then ?_
        refine co_reg ?_
        refine pk (v := .int .i64 ((i + 1 : Nat) : Int)) h904 rfl (rn_arith' rfl rfl rfl rfl rfl rfl (IntWalk.i64_in _ (by omega)) (by omega)) fun a905 h905 => ?_; clear h904
        refine pk0 (v := .int .i64 ((i + 1 : Nat) : Int)) h905 rfl fun a906 h906 => ?_; clear h905
        refine pl_nil ?_
        refine co_then ?_
        refine ⟨(s.ps.length - (i + 1)), by omega, ?_⟩
        have hX' := crRun_at hX hy244
        have hrl' : ∀ k, ((fun b => if b = y244.1 then some (f785.1, f785.2.1, f785.2.2.1 + kp266, true) else g1 b) k).map (·.2) = (crStep X y244).2.2 k := by
          rw [← cr_p hkp267 (by first | exact .inl (by omega) | exact .inr ⟨by omega, by assumption⟩), ← hgf791]; exact putF_eq hrl
        have hF907 := hF867.map hM866 hg862
        have hk908 := hk845.kept hg862 (by simp; omega)
        exact ⟨i + 1, (crStep X y244), (fun b => if b = y244.1 then some (f785.1, f785.2.1, f785.2.2.1 + kp266, true) else g1 b), c1 + 1, h906.sub ⟨rfl, (slot_eq rfl (congrArg (Value.int .i64) (by first | exact cr_l (by assumption) | assumption))), (slot_eq rfl (congrArg Value.bool (by first | rfl | exact cr_wf (by assumption) | exact cr_w (by assumption) (by assumption)))), rfl, rfl, rfl, trivial⟩, rfl, by omega, by omega, by first | exact hX' | rfl, by first | exact hrl' | exact hO.rel, (fun_eq hm860 (by first | rfl | (funext b; rfl)) (by omega)), hr887, hF907, hB881, hk908⟩
end Go.Proofs.Ytcnahhobppnbbaa
