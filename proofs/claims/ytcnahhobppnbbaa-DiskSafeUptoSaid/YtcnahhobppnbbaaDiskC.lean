/- Package disk: Files, Crash. Conditions: at most 10^6 entries. -/
import Derived.Test.YtcnahhobppnbbaaDiskB
namespace Go.Proofs.Ytcnahhobppnbbaa
open Go.RowKit Go.PlainAid
set_option linter.unusedVariables false


theorem row_nnD {w : World} {B : Nat} {T : TypeId} {sz : Nat} {v : Value} {k : Nat} {xs : List Value} (h : w.ownsRow B T sz v k xs) (hk : 0 < k) : v ≠ .slice none 0 0 := by
  rintro rfl
  rcases h.2 with ⟨_, h1⟩ | ⟨g, cap, cur, h1, _⟩
  · have h0 := h.1; omega
  · simp at h1
def crStep (X : Int × Bool × (Int → Option FileM)) (p : PcT) : Int × Bool × (Int → Option FileM) :=
  (X.1 - (if X.1 < p.2 then X.1 else p.2), X.2.1 && ((if X.1 < p.2 then X.1 else p.2) == p.2), if 0 < (if X.1 < p.2 then X.1 else p.2) ∨ (p.2 = 0 ∧ X.2.1 = true) then putF X.2.2 p.1 ((getF X.2.2 p.1).1, (getF X.2.2 p.1).2.1 + (if X.1 < p.2 then X.1 else p.2), true) else X.2.2)
def crRun (n : Int) (fm : Int → Option FileM) (ps : List PcT) : Int × Bool × (Int → Option FileM) := ps.foldl crStep (if n < 0 then 0 else n, true, fm)
theorem crRun_at {n : Int} {fm : Int → Option FileM} {l : List PcT} {i : Nat} {y : PcT} {X : Int × Bool × (Int → Option FileM)} (hX : crRun n fm (l.take i) = X) (h : l[i]? = some y) : crRun n fm (l.take (i + 1)) = crStep X y := by
  rw [← hX, takeD_at h]; unfold crRun; rw [List.foldl_append]; rfl
section
variable {X : Int × Bool × (Int → Option FileM)} {y : PcT} {kp : Int}
theorem cr_l (hk : kp = if X.1 < y.2 then X.1 else y.2) : X.1 - kp = (crStep X y).1 := by subst hk; rfl
theorem cr_wf (h : X.2.1 = false) : false = (crStep X y).2.1 := by unfold crStep; simp [h]
theorem cr_w (h : X.2.1 = true) (hk : kp = if X.1 < y.2 then X.1 else y.2) : (kp == y.2) = (crStep X y).2.1 := by subst hk; unfold crStep; simp [h]
theorem cr_p (hk : kp = if X.1 < y.2 then X.1 else y.2) (h : 0 < kp ∨ (y.2 = 0 ∧ X.2.1 = true)) : putF X.2.2 y.1 ((getF X.2.2 y.1).1, (getF X.2.2 y.1).2.1 + kp, true) = (crStep X y).2.2 := by
  subst hk; unfold crStep; simp only [if_pos h]
theorem cr_n (hk : kp = if X.1 < y.2 then X.1 else y.2) (h : ¬ kp > 0) (h2 : ¬ y.2 = 0 ∨ X.2.1 = false) : X.2.2 = (crStep X y).2.2 := by
  subst hk; unfold crStep; simp only []; rw [if_neg]
  rintro (q | ⟨q, q2⟩)
  · exact h q
  · rcases h2 with h2 | h2
    · exact h2 q
    · rw [h2] at q2; cases q2
end
def trM (m : FileM) : Option FileM := if m.2.2 = true then some (m.1.take m.2.1.toNat, m.2) else none
def trF (fm : Int → Option FileM) : Int → Option FileM := fun k => (fm k).bind trM
def trP (fm : Int → Option FileM) (ks : List Int) (j : Nat) : Int → Option FileM := fun k => if k ∈ ks.take j then trF fm k else fm k
theorem not_before {ks : List Int} {j : Nat} {y : Int} (h : ks.Pairwise (· < ·)) (hy : ks[j]? = some y) : y ∉ ks.take j := by
  intro hm
  obtain ⟨i, hi, e⟩ := List.getElem_of_mem hm
  rw [List.length_take] at hi
  rw [List.getElem_take] at e
  obtain ⟨hj, e2⟩ := List.getElem?_eq_some_iff.1 hy
  have := (List.pairwise_iff_getElem.1 h) i j (by omega) hj (by omega)
  omega
theorem trP_get {fm : Int → Option FileM} {ks : List Int} {j : Nat} {y : Int} (h : KeysF fm ks) (hy : ks[j]? = some y) : getF (trP fm ks j) y = getF fm y ∧ fm y = some (getF fm y) := by
  have h1 := not_before h.1 hy
  refine ⟨by unfold getF trP; rw [if_neg h1], ?_⟩
  have h2 := (h.2 y).1 (List.mem_of_getElem? hy)
  unfold getF
  cases hf : fm y with
  | none => rw [hf] at h2; cases h2
  | some m => rfl
theorem trP_next {fm : Int → Option FileM} {ks : List Int} {j : Nat} {y : Int} (hy : ks[j]? = some y) {k : Int} : trP fm ks (j + 1) k = if k = y then trF fm y else trP fm ks j k := by
  unfold trP; rw [takeD_at hy]
  by_cases e : k = y
  · subst e; simp
  · simp [e]
theorem tr_del {g : Int → Option FileG} {fm : Int → Option FileM} {ks : List Int} {j : Nat} {y : Int} (hr : ∀ k, (g k).map (·.2) = trP fm ks j k) (h : KeysF fm ks) (hy : ks[j]? = some y) (hst : (getF fm y).2.2 = false) : ∀ k, ((fun b => if b = y then none else g b) k).map (·.2) = trP fm ks (j + 1) k := by
  intro k
  rw [trP_next hy]
  by_cases e : k = y
  · rw [if_pos e]; subst e; simp only [if_true]
    unfold trF; rw [(trP_get h hy).2]; simp [trM, hst]
  · rw [if_neg e]; simp only [if_neg e]; exact hr k
theorem tr_put {g : Int → Option FileG} {fm : Int → Option FileM} {ks : List Int} {j : Nat} {y : Int} {v : Value} (hr : ∀ k, (g k).map (·.2) = trP fm ks j k) (h : KeysF fm ks) (hy : ks[j]? = some y) (hst : (getF fm y).2.2 = true) : ∀ k, ((fun b => if b = y then some (v, (getF fm y).1.take (getF fm y).2.1.toNat, (getF fm y).2) else g b) k).map (·.2) = trP fm ks (j + 1) k := by
  intro k
  rw [trP_next hy]
  by_cases e : k = y
  · rw [if_pos e]; subst e; simp only [if_true]
    unfold trF; rw [(trP_get h hy).2]; simp [trM, hst]
  · rw [if_neg e]; simp only [if_neg e]; exact hr k
theorem trP_0 (fm : Int → Option FileM) (ks : List Int) : trP fm ks 0 = fm := by funext k; simp [trP]
theorem trP_end {fm : Int → Option FileM} {ks : List Int} {j : Nat} (h : KeysF fm ks) (hj : ks.length ≤ j) : trP fm ks j = trF fm := by
  funext k; unfold trP; rw [List.take_of_length_le hj]
  by_cases e : k ∈ ks
  · rw [if_pos e]
  · rw [if_neg e]
    have : fm k = none := by
      cases hf : fm k with
      | none => rfl
      | some m => exact absurd ((h.2 k).2 (by rw [hf]; rfl)) e
    unfold trF; rw [this]; rfl
def crS (s : DkS) (n : Int) : DkS := ⟨trF (crRun n s.fm s.ps).2.2, [], s.ser, s.boots + 1⟩
theorem bool3 {a b : Bool} (h : a = b) : b = a := h.symm

set_option maxRecDepth 100000 in
theorem dFiles_any (w0 : World) (S : Nat → Prop) (d : Nat) (M : Nat) (pv : Value) (g : Int → Option FileG) (c : Nat) (s : DkS) (w : World) (hbw : But S w0 w) (hO : DkP S w0.heap.size w d M pv g c s) (hc : c ≤ 1000000) :
    Calls Try.prog 23 #[pt d 0] w fun e w' => ∃ (ys : List Int) (u : Value), e = .returned (u) ∧ w'.ownsRow w.heap.size 3 1 u ys.length (ys.flatMap (intE .i64)) ∧ KeysF s.fm ys ∧ ys.length ≤ c ∧ DkP S w0.heap.size w' d M pv g c s ∧ But (S) w0 w' := by
 have hB0 := hbw
 have hz0 := hbw.size
 have hz0 := hbw.size
 have hl1 := hO.blk.lt
 have hl2 := hO.map.lt
 have hne3 := blk_ne_map hO.blk hO.map
 have hl4 := sl_len (row_sl hO.row pieceE_len)
 refine co_enter (n := 29) Try.func23 rfl rfl rfl [(0, pt d 0)] rfl (fun a h0 => ?_)
 refine co_seq ?_
 refine co_reg ?_
 refine pk0 (v := .slice none 0 0) h0 rfl fun a5 h5 => ?_; clear h0
 refine pl_nil ?_
 refine co_then ?_
 refine co_seq ?_
 refine co_seq ?_
 refine co_reg ?_
 refine pk0 (v := pt d 0) h5 rfl fun a6 h6 => ?_; clear h5
 refine pw h6 rfl (op_call (args := #[pt d 0]) (R := fun res xw => res = .bool false ∧ w = xw) rfl rfl rfl (by kernel_rfl) (by kernel_rfl) (Try.call80 _ _) (dzero_any d M pv s.ser s.boots w hO.blk) (by rintro e x ⟨rfl, rfl⟩; exact ⟨_, rfl, ⟨rfl, rfl⟩⟩)) ?_; clear h6
 rintro _ _ a7 ⟨rfl, rfl⟩ h7
 refine pl_nil ?_
 refine co_then ?_
 refine co_false h7 rfl ?_
 refine wp_skip ?_
 refine co_then ?_
 refine co_seq ?_
 refine co_reg ?_
 refine pk0 (v := pt d 0) h7 rfl fun a10 h10 => ?_; clear h7
 refine pk0 (v := pt d 0) h10 rfl fun a11 h11 => ?_; clear h10
 refine pk0 (v := pt d 1) h11 rfl fun a12 h12 => ?_; clear h11
 refine pk (v := .map (some M)) h12 rfl (rn_load1 rfl rfl Try.isAgg44 (hO.blk.cell rfl)) fun a13 h13 => ?_; clear h12
 refine pw h13 rfl (op_lenO (ts := #[]) rfl rfl Try.underlying44 hO.map (by kernel_rfl) rfl) ?_; clear h13
 rintro _ _ a14 ⟨k16, rfl, hk17, rfl⟩ h14
 refine pw h14 rfl (op_makeOwn (base := w.heap.size) (enc := (intE .i64)) (k := k16) (by_ := 8) (z := .int .i64 0) (size := 1) rfl rfl rfl Try.underlying37 (by kernel_rfl) (by omega) (by unfold maxLen; omega) (Nat.le_refl _)) ?_; clear h14
 rintro _ w19 a18 ⟨N20, rfl, hN21, hr22, hg23⟩ h18
 have hz24 := hg23.size
 refine pk0 (v := .slice (some ⟨N20, 0, none⟩) 0 k16) h18 rfl fun a25 h25 => ?_; clear h18
 refine pl_nil ?_
 refine co_then ?_
 refine co_seq ?_
 refine co_seq ?_
 refine co_reg ?_
 refine pk0 (v := pt d 0) h25 rfl fun a26 h26 => ?_; clear h25
 refine pk0 (v := pt d 0) h26 rfl fun a27 h27 => ?_; clear h26
 refine pk0 (v := pt d 1) h27 rfl fun a28 h28 => ?_; clear h27
 have hk29 := hO.blk.kept hg23 (by simp)
 refine pk (v := .map (some M)) h28 rfl (rn_load1 rfl rfl Try.isAgg44 (hk29.cell rfl)) fun a30 h30 => ?_; clear h28
 have hM41 := hO.map.kept hg23 (by simp)
 refine pw h30 rfl (op_rangeO (0 : Int) rfl rfl Try.underlying44 hM41) ?_; clear h30
 rintro _ w32 a31 ⟨r33, rfl, hN34, hz35, ⟨lt36, hI37, hfu38, hlc39⟩, hg40⟩ h31
 have hr43 := row_kept_new hO.row hg23
 have ha42 := row_fresh hr43 hN34
 have ha44 := row_fresh hr22 hN34
 have hz45 := hg40.size
 have hl46 := hI37.lt
 refine pl_nil ?_
 refine co_then ?_
 refine wp_block ?_
 have h47 : Slots 29 [(0, pt d 0), (3, .slice (some ⟨N20, 0, none⟩) 0 k16), (17, pt r33 0)] _ := h31.sub ⟨rfl, rfl, rfl, trivial⟩; clear h31
 refine co_loop (fun mm a x => ∃ (u : Value) (ks : List Int) (ls : List (Int × FileG)), Slots 29 [(0, pt d 0), (3, u), (17, pt r33 0)] a ∧ mm = ls.length ∧ ((ks ++ ls.map (·.1)).Perm (lt36.map (·.1))) ∧ (u ≠ .slice none 0 0) ∧ MapO intK fileV x M g c ∧ Fam S w0.heap.size x g ∧ x.ownsRow 0 124 2 pv s.ps.length (s.ps.flatMap pieceE) ∧ IterO intK fileV x r33 M ls ∧ x.ownsRow w.heap.size 3 1 u ks.length (ks.flatMap (intE .i64)) ∧ But (S) w0 x ∧ Blk x d 47 #[.bool true, .map (some M), pv, .int .i64 s.ser, .int .i64 s.boots]) (lt36.length) ?_ ?_
 have hM48 := hM41.kept hg40 (by simp)
 have hF49 := hO.fam.new hg23
 have hF50 := hF49.new hg40
 have hr51 := row_kept_new hr43 hg40
 have hr52 := row_kept_new hr22 hg40
 have hB53 := fbU_new hB0 hg23
 have hB54 := fbU_new hB53 hg40
 have hk55 := hk29.kept hg40 (by simp)
 · exact ⟨(.slice (some ⟨N20, 0, none⟩) 0 k16), [], lt36, h47.sub ⟨rfl, rfl, rfl, trivial⟩, rfl, by first | exact hP' | (rw [List.nil_append]), by first | (simp; done) | exact hnn', (fun_eq hM48 (by first | rfl | (funext b; rfl)) (by omega)), hF50, hr51, hI37, (row_eq hr52 (rfl)), hB54, hk55⟩
 · rintro k56 a57 w58 ⟨u, ks, ls, h57, rfl, hi59, hi60, hf61, hf62, hf63, hf64, hf65, hB66, hk67⟩
   have hz68 := hB66.size
   have hl69 := hk67.lt
   have hl70 := hf61.lt
   have hl71 := hf64.lt
   have hP : (ks ++ ls.map (·.1)).Perm (lt36.map (·.1)) := by assumption
   have hPl := hP.length_eq; simp only [List.length_append, List.length_map] at hPl
   refine co_seq ?_
   refine co_reg ?_
   refine pl_want h57 rfl rfl rfl (op_nextO rfl rfl hf64) ?_; clear h57
   rintro _ w73 a72 (⟨hnil82, rfl, rfl⟩ | ⟨p74, l75, l76, hleft77, rfl, hI78, hen79, hz80, hg81⟩) h72
   ·
    refine pk0 (v := .bool false) h72 rfl fun a83 h83 => ?_; clear h72
    refine pl_nil ?_
    refine co_then ?_
    refine co_seq ?_
    refine co_false h83 rfl ?_
    refine wp_exit ?_
    refine co_thenX ?_
    refine co_thenX ?_
    refine co_blockX ?_
    refine co_then ?_
    refine co_seq ?_
    refine co_reg ?_
    refine pk0 (v := u) h83 rfl fun a84 h84 => ?_; clear h83
    refine pw h84 rfl (op_call (args := #[u]) (R := fun res xw => res = .tuple #[] ∧ xw.ownsRow w.heap.size 3 1 u (srt ks).length ((srt ks).flatMap (intE .i64)) ∧ w58.grownBy xw (Value.ownBlock u)) rfl rfl rfl (by kernel_rfl) (by kernel_rfl) (Try.call82 _ _) (sortI_any u ks w.heap.size 3 w58 hf65 (by assumption) (by omega)) (by rintro e x ⟨rfl, h⟩; exact ⟨_, rfl, rfl, h⟩)) ?_; clear h84
    rintro _ w86 a85 ⟨rfl, hr87, hg88⟩ h85
    have hz89 := hg88.size
    have hle90 := srt_len ks
    refine pl_nil ?_
    refine co_then ?_
    refine co_seq ?_
    refine co_reg ?_
    refine pk0 (v := u) h85 rfl fun a91 h91 => ?_; clear h85
    refine pk0 (v := u) h91 rfl fun a92 h92 => ?_; clear h91
    refine pl_nil ?_
    refine co_then ?_
    refine wp_ret ?_
    refine co_ret1 h92 rfl rfl ?_
    have hk93 := hk67.kept hg88 (own_neT hf65 hk67 (by decide))
    have hM94 := hf61.kept hg88 (hf61.row hf65)
    have hr95 := row_kept_row hf63 hf65 hg88 (by decide)
    have hF96 := hf62.row hf65 (by decide) hg88
    have hB97 := fbU_row hB66 (InS.low hf65 (by omega)) hg88
    obtain rfl : ls = [] := hnil82
    exact ⟨_, _, rfl, (row_lows hr87 (by omega)), keys_of hO.rel hfu38 hP, by rw [srt_len]; simp at hPl; omega, ⟨hk93, hM94, hr95, hF96, hO.sd, hO.sM, hO.sp, hO.rel⟩, hB97⟩
   ·
    have hz98 := hg81.size
    have hl99 := hI78.lt
    have hln100 : ls.length = l75.length + l76.length + 1 := by rw [hleft77]; simp; omega
    have hla101 : (l75 ++ l76).length = l75.length + l76.length := List.length_append
    refine pk0 (v := .bool true) h72 rfl fun a102 h102 => ?_; clear h72
    refine pl_nil ?_
    refine co_then ?_
    refine co_seq ?_
    refine co_true h102 rfl ?_
    refine wp_skip ?_
    refine co_then ?_
    refine wp_block ?_
    refine co_seq ?_
    refine co_reg ?_
    refine pk (v := .tuple #[.int .i64 p74.1, .agg #[p74.2.1, .int .i64 p74.2.2.2.1, .bool p74.2.2.2.2]]) h102 rfl (rn_entry rfl rfl hen79) fun a103 h103 => ?_; clear h102
    refine pk0 (v := .int .i64 p74.1) h103 rfl fun a104 h104 => ?_; clear h103
    refine pk0 (v := .int .i64 p74.1) h104 rfl fun a105 h105 => ?_; clear h104
    refine pl_nil ?_
    refine co_then ?_
    refine co_reg ?_
    refine pk0 (v := u) h105 rfl fun a106 h106 => ?_; clear h105
    refine pk0 (v := .int .i64 p74.1) h106 rfl fun a107 h107 => ?_; clear h106
    refine pw h107 rfl (op_new (v := fun N => .slice (some ⟨N, 0, none⟩) 1 1) (T := 3) (cs := #[.int .i64 p74.1]) (by kernel_rfl) (by kernel_rfl) (by kernel_rfl)) ?_; clear h107
    rintro _ w109 a108 ⟨N110, rfl, hN113, hz114, hk112, hg111⟩ h108
    have hr116 := row_kept_at hf63 hg81 (ha42)
    have ha115 := row_fresh hr116 hN113
    have hr118 := row_kept_at hf65 hg81 ((hf64.row hf65).2)
    have ha117 := row_fresh hr118 hN113
    have hz119 := hg111.size
    try dsimp only at h108
    have hr126 := row_kept_new hr118 hg111
    refine pw h108 rfl (op_append rfl w.heap.size 3 (z := .int .i64 0) (size := 1) (bytes := 8) Try.underlying37 (by kernel_rfl) rfl rfl rfl hr126 rfl hk112 rfl (by kernel_rfl) (by first | omega | (simp only [List.length_nil, List.length_append, List.length_cons, List.length_take, List.length_drop]; omega)) (by first | omega | (simp only [List.length_nil, List.length_append, List.length_cons, List.length_take, List.length_drop]; omega)) (by omega)) ?_; clear h108
    rintro v122 w121 a120 ⟨hr123, hg124⟩ h120
    have hr123' : w121.ownsRow w.heap.size 3 1 v122 ((ks ++ [p74.1]).length) ((ks ++ [p74.1]).flatMap (intE .i64)) := row_push (y := p74.1) hr123 rfl rfl; clear hr123
    have hz127 := hg124.size
    refine pk0 (v := v122) h120 rfl fun a128 h128 => ?_; clear h120
    refine pl_nil ?_
    refine co_blockN ?_
    refine co_then ?_
    refine ⟨((l75 ++ l76).length), by omega, ?_⟩
    have hP' : ((ks ++ [p74.1]) ++ (l75 ++ l76).map (·.1)).Perm (lt36.map (·.1)) := by have hq := perm_snoc hP (L1 := l75.map (·.1)) (L2 := l76.map (·.1)) (p := p74.1) (by rw [hleft77]; simp); simpa using hq
    have hnn' := row_nnD hr123' (by simp)
    have hM129 := hf61.kept hg81 (by simp; omega)
    have hM130 := hM129.kept hg111 (by simp)
    have hM131 := hM130.kept hg124 (hM130.row hr126)
    have hF132 := hf62.iter hf64 hg81
    have hF133 := hF132.new hg111
    have hF134 := hF133.row hr126 (by decide) hg124
    have hr135 := row_kept_new hr116 hg111
    have hr136 := row_kept_row hr135 hr126 hg124 (by decide)
    have hI137 := hI78.kept hg111 (by simp) (by simp)
    have hI138 := hI137.kept hg124 (hI137.row hr126).1 (hI137.row hr126).2
    have hB139 := fbU_at hB66 hg81 (fun hlt => absurd hlt (by omega))
    have hB140 := fbU_new hB139 hg111
    have hB141 := fbU_row hB140 (InS.low hr126 (by omega)) hg124
    have hk142 := hk67.kept hg81 (by simp; omega)
    have hk143 := hk142.kept hg111 (by simp)
    have hk144 := hk143.kept hg124 (own_neT hr126 hk143 (by decide))
    exact ⟨v122, (ks ++ [p74.1]), (l75 ++ l76), h128.sub ⟨rfl, rfl, rfl, trivial⟩, rfl, by first | exact hP' | (rw [List.nil_append]), by first | (simp; done) | exact hnn', (fun_eq hM131 (by first | rfl | (funext b; rfl)) (by omega)), hF134, hr136, hI138, (row_eq hr123' (rfl)), hB141, hk144⟩
set_option maxRecDepth 100000 in
theorem dCrash_any (w0 : World) (S : Nat → Prop) (d : Nat) (M : Nat) (pv : Value) (g : Int → Option FileG) (c : Nat) (s : DkS) (n : Int) (w : World) (hbw : But S w0 w) (hO : DkP S w0.heap.size w d M pv g c s) (hc : c ≤ 100000) (hpl : s.ps.length ≤ 100000) (hbo : 0 ≤ s.boots ∧ s.boots ≤ 1000000) (hni : -9223372036854775808 ≤ n ∧ n ≤ 9223372036854775807) (hcr : ∀ (i : Nat) (X : Int × Bool × (Int → Option FileM)) (p : PcT), crRun n s.fm (s.ps.take i) = X → s.ps[i]? = some p → 0 ≤ p.2 ∧ 0 ≤ X.1 ∧ 0 ≤ (getF X.2.2 p.1).2.1 ∧ (getF X.2.2 p.1).2.1 + p.2 ≤ 1000000000000 ∧ X.1 ≤ 9223372036854775807) (hfin : ∀ k, 0 ≤ (getF (crRun n s.fm s.ps).2.2 k).2.1 ∧ (getF (crRun n s.fm s.ps).2.2 k).2.1 ≤ (getF (crRun n s.fm s.ps).2.2 k).1.length) :
    Calls Try.prog 25 #[pt d 0, .int .i64 n] w fun e w' => ∃ (pv' : Value) (g' : Int → Option FileG) (c' : Nat), e = .returned (.tuple #[]) ∧ DkP S w0.heap.size w' d M pv' g' c' (crS s n) ∧ c' ≤ 2 * c + 2 * s.ps.length ∧ But (S) w0 w' := by
 have hB0 := hbw
 have hz0 := hbw.size
 have hz0 := hbw.size
 have hl1 := hO.blk.lt
 have hl2 := hO.map.lt
 have hne3 := blk_ne_map hO.blk hO.map
 have hl4 := sl_len (row_sl hO.row pieceE_len)
 refine co_enter (n := 114) Try.func25 rfl rfl rfl [(0, pt d 0), (1, .int .i64 n)] rfl (fun a h0 => ?_)
 refine co_seq ?_
 refine co_seq ?_
 refine co_reg ?_
 refine pk0 (v := pt d 0) h0 rfl fun a5 h5 => ?_; clear h0
 refine pw h5 rfl (op_call (args := #[pt d 0]) (R := fun res xw => res = .bool false ∧ w = xw) rfl rfl rfl (by kernel_rfl) (by kernel_rfl) (Try.call80 _ _) (dzero_any d M pv s.ser s.boots w hO.blk) (by rintro e x ⟨rfl, rfl⟩; exact ⟨_, rfl, ⟨rfl, rfl⟩⟩)) ?_; clear h5
 rintro _ _ a6 ⟨rfl, rfl⟩ h6
 refine pl_nil ?_
 refine co_then ?_
 refine co_false h6 rfl ?_
 refine wp_skip ?_
 refine co_then ?_
 refine co_seq ?_
 refine co_reg ?_
 refine pk0 (v := .int .i64 n) h6 rfl fun a9 h9 => ?_; clear h6
 obtain ⟨kp10, hkp11⟩ : ∃ z : Int, z = (if n < 0 then 0 else n) := ⟨_, rfl⟩
 have hq12 : kp10 ≥ n ∧ kp10 ≥ 0 ∧ (kp10 = n ∨ kp10 = 0) := by rw [hkp11]; split <;> omega
 refine pk (v := .int .i64 kp10) h9 rfl (by rw [hkp11]; kernel_rfl) fun a13 h13 => ?_; clear h9
 refine pk0 (v := .int .i64 kp10) h13 rfl fun a14 h14 => ?_; clear h13
 refine pk0 (v := .bool true) h14 rfl fun a15 h15 => ?_; clear h14
 refine pl_nil ?_
 refine co_then ?_
 refine co_seq ?_
 refine co_seq ?_
 refine co_reg ?_
 refine pk0 (v := pt d 0) h15 rfl fun a16 h16 => ?_; clear h15
 refine pk0 (v := pt d 0) h16 rfl fun a17 h17 => ?_; clear h16
 refine pk0 (v := pt d 2) h17 rfl fun a18 h18 => ?_; clear h17
 refine pk (v := pv) h18 rfl (rn_load1 rfl rfl Try.isAgg45 (hO.blk.cell rfl)) fun a19 h19 => ?_; clear h18
 refine pk (v := .int .i64 ((s.ps.length : Nat) : Int)) h19 rfl (rn_lenOwn rfl rfl Try.underlying45 hO.row) fun a20 h20 => ?_; clear h19
 refine pk0 (v := .int .i64 0) h20 rfl fun a21 h21 => ?_; clear h20
 refine pl_nil ?_
 refine co_then ?_
 refine wp_block ?_
 have h22 : Slots 114 [(0, pt d 0), (4, .int .i64 kp10), (5, .bool true), (20, pv), (21, .int .i64 ((s.ps.length : Nat) : Int)), (22, .int .i64 0)] _ := h21.sub ⟨rfl, rfl, rfl, rfl, rfl, rfl, trivial⟩; clear h21
 refine co_loop (fun mm a x => ∃ (i : Nat) (X : Int × Bool × (Int → Option FileM)) (g1 : Int → Option FileG) (c1 : Nat), Slots 114 [(0, pt d 0), (4, .int .i64 X.1), (5, .bool X.2.1), (20, pv), (21, .int .i64 ((s.ps.length : Nat) : Int)), (22, .int .i64 ((i : Nat) : Int))] a ∧ mm = s.ps.length - i ∧ (i ≤ s.ps.length) ∧ (c1 ≤ c + i) ∧ (crRun n s.fm (s.ps.take i) = X) ∧ (∀ k, (g1 k).map (·.2) = X.2.2 k) ∧ MapO intK fileV x M g1 c1 ∧ x.ownsRow 0 124 2 pv s.ps.length (s.ps.flatMap pieceE) ∧ Fam S w0.heap.size x g1 ∧ But (S) w0 x ∧ Blk x d 47 #[.bool true, .map (some M), pv, .int .i64 s.ser, .int .i64 s.boots]) (s.ps.length - 0) ?_ ?_
 · exact ⟨0, (crRun n s.fm []), g, c, h22.sub ⟨rfl, (slot_eq rfl (congrArg (Value.int .i64) (by first | exact cr_l (by assumption) | assumption))), (slot_eq rfl (congrArg Value.bool (by first | rfl | exact cr_wf (by assumption) | exact cr_w (by assumption) (by assumption)))), rfl, rfl, (slot_eq rfl (congrArg (Value.int .i64) (by first | rfl | omega))), trivial⟩, rfl, by omega, by omega, by first | exact hX' | rfl, by first | exact hrl' | exact hO.rel, (fun_eq hO.map (by first | rfl | (funext b; rfl)) (by omega)), hO.row, hO.fam, hB0, hO.blk⟩
 · rintro k23 a24 w25 ⟨i, X, g1, c1, h24, rfl, hi26, hi27, hi28, hi29, hf30, hf31, hf32, hB33, hk34⟩
   have hz35 := hB33.size
   have hl36 := hk34.lt
   have hl37 := hf30.lt
   have hX : crRun n s.fm (s.ps.take i) = X := by assumption
   have hrl : ∀ k, (g1 k).map (·.2) = X.2.2 k := by assumption
   refine co_seq ?_
   refine co_reg ?_
   refine pk0 (v := .bool (decide (((i : Nat) : Int) < ((s.ps.length : Nat) : Int)))) h24 rfl fun a38 h38 => ?_; clear h24
   refine pl_nil ?_
   refine co_then ?_
   refine co_seq ?_
   cases hc39 : (decide (((i : Nat) : Int) < ((s.ps.length : Nat) : Int)))
   ·
    rw [hc39] at h38
    have hp40 : ¬ (((i : Nat) : Int) < ((s.ps.length : Nat) : Int)) := of_decide_eq_false hc39
    clear hc39
    refine co_false h38 rfl ?_
    refine wp_exit ?_
    refine co_thenX ?_
    refine co_thenX ?_
    refine co_blockX ?_
    refine co_then ?_
    refine co_seq ?_
    refine co_seq ?_
    refine co_reg ?_
    refine pk0 (v := pt d 0) h38 rfl fun a41 h41 => ?_; clear h38
    have hXz : crRun n s.fm s.ps = X := by have := hX; rwa [List.take_of_length_le (by omega)] at this
    refine pw h41 rfl (op_call (args := #[pt d 0]) (R := fun res xw => ∃ (ys : List Int) (u : Value), res = u ∧ xw.ownsRow w25.heap.size 3 1 u ys.length (ys.flatMap (intE .i64)) ∧ KeysF (⟨X.2.2, s.ps, s.ser, s.boots⟩ : DkS).fm ys ∧ ys.length ≤ c1 ∧ DkP S w0.heap.size xw d M pv g1 c1 (⟨X.2.2, s.ps, s.ser, s.boots⟩ : DkS) ∧ But (S) w0 xw) rfl rfl rfl (by kernel_rfl) (by kernel_rfl) (Try.call23 _ _) (dFiles_any w0 S d M pv g1 c1 (⟨X.2.2, s.ps, s.ser, s.boots⟩ : DkS) w25 hB33 ⟨hk34, hf30, hf31, hf32, hO.sd, hO.sM, hO.sp, hrl⟩ (by omega)) (by rintro e x ⟨ys, u, rfl, h1, h2, h5, h3, h4⟩; exact ⟨_, rfl, ys, u, rfl, h1, h2, h5, h3, h4⟩)) ?_; clear h41
    rintro u49 w43 a42 ⟨ys48, _, rfl, hr47, hK46, hyl50, hO44, hB45⟩ h42
    have hz51 := hB45.size
    have hl52 := hO44.blk.lt
    have hl53 := hO44.map.lt
    have hne54 := blk_ne_map hO44.blk hO44.map
    have hl55 := sl_len (row_sl hO44.row pieceE_len)
    have hl56 := sl_len (row_sl hr47 (intE_len .i64))
    refine pk (v := .int .i64 ((ys48.length : Nat) : Int)) h42 rfl (rn_lenOwn rfl rfl Try.underlying37 hr47) fun a57 h57 => ?_; clear h42
    refine pk0 (v := .int .i64 0) h57 rfl fun a58 h58 => ?_; clear h57
    refine pl_nil ?_
    refine co_then ?_
    refine wp_block ?_
    have hK2 : KeysF X.2.2 ys48 := hK46
    have h59 : Slots 114 [(0, pt d 0), (72, u49), (73, .int .i64 ((ys48.length : Nat) : Int)), (74, .int .i64 0)] _ := h58.sub ⟨rfl, rfl, rfl, rfl, trivial⟩; clear h58
    refine co_loop (fun mm a x => ∃ (j : Nat) (g2 : Int → Option FileG) (c2 : Nat), Slots 114 [(0, pt d 0), (72, u49), (73, .int .i64 ((ys48.length : Nat) : Int)), (74, .int .i64 ((j : Nat) : Int))] a ∧ mm = ys48.length - j ∧ (j ≤ ys48.length) ∧ (c2 ≤ c1 + j) ∧ (∀ k, (g2 k).map (·.2) = trP X.2.2 ys48 j k) ∧ MapO intK fileV x M g2 c2 ∧ x.ownsRow 0 124 2 pv s.ps.length (s.ps.flatMap pieceE) ∧ Fam S w0.heap.size x g2 ∧ x.ownsRow w25.heap.size 3 1 u49 ys48.length (ys48.flatMap (intE .i64)) ∧ But (S) w0 x ∧ Blk x d 47 #[.bool true, .map (some M), pv, .int .i64 s.ser, .int .i64 s.boots]) (ys48.length - 0) ?_ ?_
    · exact ⟨0, g1, c1, h59.sub ⟨rfl, rfl, rfl, (slot_eq rfl (congrArg (Value.int .i64) (by first | rfl | omega))), trivial⟩, rfl, by omega, by omega, by first | exact hrl2' | (rw [trP_0]; exact hO44.rel), (fun_eq hO44.map (by first | rfl | (funext b; rfl)) (by omega)), hO44.row, hO44.fam, hr47, hB45, hO44.blk⟩
    · rintro k60 a61 w62 ⟨j, g2, c2, h61, rfl, hi63, hi64, hi65, hf66, hf67, hf68, hf69, hB70, hk71⟩
      have hz72 := hB70.size
      have hl73 := hk71.lt
      have hl74 := hf66.lt
      have hrl2 : ∀ k, (g2 k).map (·.2) = trP X.2.2 ys48 j k := by assumption
      refine co_seq ?_
      refine co_reg ?_
      refine pk0 (v := .bool (decide (((j : Nat) : Int) < ((ys48.length : Nat) : Int)))) h61 rfl fun a75 h75 => ?_; clear h61
      refine pl_nil ?_
      refine co_then ?_
      refine co_seq ?_
      cases hc76 : (decide (((j : Nat) : Int) < ((ys48.length : Nat) : Int)))
      ·
       rw [hc76] at h75
       have hp77 : ¬ (((j : Nat) : Int) < ((ys48.length : Nat) : Int)) := of_decide_eq_false hc76
       clear hc76
       refine co_false h75 rfl ?_
       refine wp_exit ?_
       refine co_thenX ?_
       refine co_thenX ?_
       refine co_blockX ?_
       refine co_then ?_
       refine co_seq ?_
       refine co_reg ?_
       refine pk0 (v := pt d 0) h75 rfl fun a78 h78 => ?_; clear h75
       have hrz : ∀ k, (g2 k).map (·.2) = trF X.2.2 k := by have := hrl2; rwa [trP_end hK2 (by omega)] at this
       refine pw h78 rfl (op_call (args := #[pt d 0]) (R := fun res xw => res = .tuple #[] ∧ ∃ (pv : Value), DkP S w0.heap.size xw d M pv g2 c2 (forS (⟨trF X.2.2, s.ps, s.ser, s.boots⟩ : DkS)) ∧ But (S) w0 xw) rfl rfl rfl (by kernel_rfl) (by kernel_rfl) (Try.call81 _ _) (dforget_any w0 S d M pv g2 c2 (⟨trF X.2.2, s.ps, s.ser, s.boots⟩ : DkS) w62 hB70 ⟨hk71, hf66, hf67, hf68, hO44.sd, hO44.sM, hO44.sp, hrz⟩) (by rintro e x ⟨pv, rfl, h1, h2⟩; exact ⟨_, rfl, rfl, pv, h1, h2⟩)) ?_; clear h78
       rintro _ w80 a79 ⟨rfl, pv83, hO81, hB82⟩ h79
       have hz84 := hB82.size
       have hl85 := hO81.blk.lt
       have hl86 := hO81.map.lt
       have hne87 := blk_ne_map hO81.blk hO81.map
       have hl88 := sl_len (row_sl hO81.row pieceE_len)
       refine pl_nil ?_
       refine co_then ?_
       refine co_reg ?_
       refine pk0 (v := pt d 0) h79 rfl fun a89 h89 => ?_; clear h79
       refine pk0 (v := pt d 0) h89 rfl fun a90 h90 => ?_; clear h89
       refine pk0 (v := pt d 4) h90 rfl fun a91 h91 => ?_; clear h90
       refine pk (v := .int .i64 s.boots) h91 rfl (rn_load1 rfl rfl Try.isAgg3 (hO81.blk.cell rfl)) fun a92 h92 => ?_; clear h91
       refine pk (v := .int .i64 (s.boots + 1)) h92 rfl (rn_arith rfl rfl rfl rfl rfl rfl (IntWalk.i64_in _ (by omega))) fun a93 h93 => ?_; clear h92
       refine pk0 (v := pt d 0) h93 rfl fun a94 h94 => ?_; clear h93
       refine pk0 (v := pt d 4) h94 rfl fun a95 h95 => ?_; clear h94
       refine pwD h95 rfl (op_store1 rfl rfl rfl rfl Try.sizeOf3 hO81.blk rfl) ?_; clear h95
       rintro _ w97 a96 ⟨hk98, hz99, hg100⟩ h96
       have hk98' : Blk w97 d 47 #[.bool true, .map (some M), pv83, .int .i64 s.ser, .int .i64 (s.boots + 1)] := hk98; clear hk98
       have hz101 := hg100.size
       refine pl_nil ?_
       refine co_ret0n h96 rfl ?_
       have hM102 := hO81.map.kept hg100 (by simp; omega)
       have hr103 := row_kept_at hO81.row hg100 (own_neT hO81.row hO81.blk (by decide))
       have hF104 := hO81.fam.blk hO81.blk (by decide) hg100
       have hB105 := fbU_at hB82 hg100 (fun hlt => by rcases hO81.sd with hq | hq; exact hq; omega)
       exact ⟨_, _, _, rfl, by unfold crS; rw [hXz]; exact ⟨hk98', hM102, hr103, hF104, hO81.sd, hO81.sM, hO81.sp, hO81.rel⟩, by omega, hB105⟩
      ·
       rw [hc76] at h75
       have hp106 : ((j : Nat) : Int) < ((ys48.length : Nat) : Int) := of_decide_eq_true hc76
       clear hc76
       refine co_true h75 rfl ?_
       refine wp_skip ?_
       refine co_then ?_
       refine co_seq ?_
       refine wp_block ?_
       refine co_seq ?_
       refine co_reg ?_
       obtain ⟨y107, hy107⟩ : ∃ z, ys48[j]? = some z := ⟨_, List.getElem?_eq_getElem (by first | omega | (simp; done) | (simp; omega))⟩
       have oky107 := (fun (z : Int) (_ : z ∈ ys48) => trivial) _ (List.mem_of_getElem? hy107)
       have htp := trP_get hK2 hy107; have hfq := hfin y107; rw [hXz] at hfq; rw [← htp.1] at hfq
       refine pk (v := pt (blkOf u49) (offOf u49 + j * 1)) h75 rfl (rn_index rfl rfl rfl Try.underlying37 Try.sizeOf3 (row_sl hf69 (intE_len .i64)) (by omega) (by first | omega | (simp; done) | (simp; omega))) fun a108 h108 => ?_; clear h75
       refine pk (v := .int .i64 y107) h108 rfl (rn_load1 rfl rfl Try.isAgg3 ((sl_at (row_sl hf69 (intE_len .i64)) hy107) 0 _ rfl)) fun a109 h109 => ?_; clear h108
       refine pk0 (v := .int .i64 y107) h109 rfl fun a110 h110 => ?_; clear h109
       refine pl_nil ?_
       refine co_then ?_
       refine co_seq ?_
       refine co_reg ?_
       refine pk0 (v := pt d 0) h110 rfl fun a111 h111 => ?_; clear h110
       refine pk0 (v := pt d 0) h111 rfl fun a112 h112 => ?_; clear h111
       refine pk0 (v := pt d 1) h112 rfl fun a113 h113 => ?_; clear h112
       refine pk (v := .map (some M)) h113 rfl (rn_load1 rfl rfl Try.isAgg44 (hk71.cell rfl)) fun a114 h114 => ?_; clear h113
       refine pk0 (v := .int .i64 y107) h114 rfl fun a115 h115 => ?_; clear h114
       obtain ⟨f116, hf117⟩ : ∃ z, (g2 y107).getD fz = z := ⟨_, rfl⟩
       have hA118 := hf68.at hf117
       have hl119 := sl_len (row_sl hA118.1 u8E_len)
       have hgf120 := getF_eq hrl2 hf117
       have hgl121 : f116.2.1.length = (getF (trP X.2.2 ys48 j) y107).1.length := by rw [hgf120]
       have hgs122 : f116.2.2.1 = (getF (trP X.2.2 ys48 j) y107).2.1 := by rw [hgf120]
       refine pk (v := .agg #[f116.1, .int .i64 f116.2.2.1, .bool f116.2.2.2]) h115 rfl (rn_lookO (a := y107) (f := f116) (intKL Try.underlying3) rfl rfl rfl Try.underlying44 filez hf66 hf117) fun a123 h123 => ?_; clear h115
       refine pw h123 rfl (op_new (v := fun N => pt N 0) (T := 122) (cs := #[.slice none 0 0, .int .i64 0, .bool false]) (by kernel_rfl) (by kernel_rfl) (by kernel_rfl)) ?_; clear h123
       rintro _ w125 a124 ⟨N126, rfl, hN129, hz130, hk128, hg127⟩ h124
       have ha131 := row_fresh hf67 hN129
       have ha132 := row_fresh hf69 hN129
       have ha133 := row_fresh hA118.1 hN129
       have hz134 := hg127.size
       try dsimp only at h124
       have hr140 := row_kept_new hA118.1 hg127
       refine pwD h124 rfl (op_storeN rfl rfl rfl (all_cons (row_one hr140) (all_cons rfl (all_cons rfl all_nil))) (by kernel_rfl) hk128 rfl) ?_; clear h124
       rintro _ w136 a135 ⟨hk137, hz138, hg139⟩ h135
       have hk137' : Blk w136 N126 122 #[f116.1, .int .i64 f116.2.2.1, .bool f116.2.2.2] := hk137; clear hk137
       have hz141 := hg139.size
       refine pl_nil ?_
       refine co_then ?_
       refine co_seq ?_
       refine co_seq ?_
       refine co_reg ?_
       refine pk0 (v := pt N126 2) h135 rfl fun a142 h142 => ?_; clear h135
       refine pk (v := .bool f116.2.2.2) h142 rfl (rn_load1 rfl rfl Try.isAgg4 (hk137'.cell rfl)) fun a143 h143 => ?_; clear h142
       have hB145 := fbU_new hB70 hg127
       have hB146 := fbU_at hB145 hg139 (fun hlt => absurd hlt (by omega))
       have hk147 := hk71.kept hg127 (by simp)
       have hk148 := hk147.kept hg139 (by simp; omega)
       have hM149 := hf66.kept hg127 (by simp)
       have hM150 := hM149.kept hg139 (by simp; omega)
       have hr151 := row_kept_new hf67 hg127
       have hr152 := row_kept_at hr151 hg139 (ha131)
       have hF153 := hf68.new hg127
       have hF154 := hF153.blk hk128 (by decide) hg139
       have hr155 := row_kept_new hf69 hg127
       have hr156 := row_kept_at hr155 hg139 (ha132)
       cases hc144 : (f116.2.2.2)
       ·
        rw [hc144] at h143
        refine pk0 (v := .bool true) h143 rfl fun a157 h157 => ?_; clear h143
        refine pl_nil ?_
        refine co_then ?_
        refine co_true h157 rfl ?_
        refine co_seq ?_
        refine co_reg ?_
        refine pk0 (v := pt d 0) h157 rfl fun a158 h158 => ?_; clear h157
        refine pk0 (v := pt d 0) h158 rfl fun a159 h159 => ?_; clear h158
        refine pk0 (v := pt d 1) h159 rfl fun a160 h160 => ?_; clear h159
        refine pk (v := .map (some M)) h160 rfl (rn_load1 rfl rfl Try.isAgg44 (hk148.cell rfl)) fun a161 h161 => ?_; clear h160
        refine pk0 (v := .int .i64 y107) h161 rfl fun a162 h162 => ?_; clear h161
        refine pwD h162 rfl (op_deleteO (a := y107) (intKL Try.underlying3) rfl rfl rfl Try.underlying44 hM150) ?_; clear h162
        rintro _ w164 a163 ⟨hm165, hz166, hg167⟩ h163
        have hF168 := hF154.del y107
        have hz169 := hg167.size
        have hl170 := hm165.lt
        refine pl_nil ?_
        refine co_then ?_
        refine wp_exit ?_
        refine co_thenX ?_
        refine co_blockX ?_
        refine co_then ?_
        refine co_reg ?_
        refine pk (v := .int .i64 ((j + 1 : Nat) : Int)) h163 rfl (rn_arith' rfl rfl rfl rfl rfl rfl (IntWalk.i64_in _ (by omega)) (by omega)) fun a171 h171 => ?_; clear h163
        refine pk0 (v := .int .i64 ((j + 1 : Nat) : Int)) h171 rfl fun a172 h172 => ?_; clear h171
        refine pl_nil ?_
        refine co_then ?_
        refine ⟨(ys48.length - (j + 1)), by omega, ?_⟩
        have htb : (getF X.2.2 y107).2.2 = f116.2.2.2 := by rw [← htp.1, ← hgf120]
        have hrl2' : ∀ k, ((fun b => if b = y107 then none else g2 b) k).map (·.2) = trP X.2.2 ys48 (j + 1) k := by
          exact tr_del hrl2 hK2 hy107 (by rw [htb]; assumption)
        have hr173 := row_kept_at hr152 hg167 (hM150.row hr152)
        have hF174 := hF168.map hM150 hg167
        have hr175 := row_kept_at hr156 hg167 (hM150.row hr156)
        have hB176 := fbU_at hB146 hg167 (fun hlt => by rcases hO44.sM with hq | hq; exact hq; omega)
        have hk177 := hk148.kept hg167 (by simp; omega)
        exact ⟨j + 1, (fun b => if b = y107 then none else g2 b), c2, h172.sub ⟨rfl, rfl, rfl, rfl, trivial⟩, rfl, by omega, by omega, by first | exact hrl2' | (rw [trP_0]; exact hO44.rel), (fun_eq hm165 (by first | rfl | (funext b; rfl)) (by omega)), hr173, hF174, hr175, hB176, hk177⟩
       ·
        rw [hc144] at h143
        refine pk0 (v := .bool false) h143 rfl fun a178 h178 => ?_; clear h143
        refine pl_nil ?_
        refine co_then ?_
        refine co_false h178 rfl ?_
        refine wp_skip ?_
        refine co_then ?_
        refine co_seq ?_
        refine co_reg ?_
        refine pk0 (v := pt N126 0) h178 rfl fun a179 h179 => ?_; clear h178
        refine pk (v := f116.1) h179 rfl (rn_load1 rfl rfl Try.isAgg120 (hk137'.cell rfl)) fun a180 h180 => ?_; clear h179
        refine pk0 (v := pt N126 1) h180 rfl fun a181 h181 => ?_; clear h180
        refine pk (v := .int .i64 f116.2.2.1) h181 rfl (rn_load1 rfl rfl Try.isAgg3 (hk137'.cell rfl)) fun a182 h182 => ?_; clear h181
        have hr183 := row_kept_at hr140 hg139 (ha133)
        have hr184 := row_cut hr183 u8E_len ((f116.2.2.1).toNat) (by omega) (.inr trivial)
        refine pk (v := subV (f116.1) 0 ((f116.2.2.1).toNat) 1) h182 rfl (rn_sliceTo rfl rfl rfl Try.underlying120 Try.sizeOf5 (row_sl hr183 u8E_len) (by omega) (by omega)) fun a185 h185 => ?_; clear h182
        refine pk0 (v := pt N126 0) h185 rfl fun a186 h186 => ?_; clear h185
        refine pwD h186 rfl (op_store1 rfl rfl rfl (row_one hr184) Try.sizeOf120 hk137' rfl) ?_; clear h186
        rintro _ w188 a187 ⟨hk189, hz190, hg191⟩ h187
        have hk189' : Blk w188 N126 122 #[subV (f116.1) 0 ((f116.2.2.1).toNat) 1, .int .i64 f116.2.2.1, .bool f116.2.2.2] := hk189; clear hk189
        have hz192 := hg191.size
        refine pl_nil ?_
        refine co_then ?_
        refine dr_gen (fun x => But (S) w0 x ∧ Blk x d 47 #[.bool true, .map (some M), pv, .int .i64 s.ser, .int .i64 s.boots] ∧ Blk x N126 122 #[subV (f116.1) 0 ((f116.2.2.1).toNat) 1, .int .i64 f116.2.2.1, .bool f116.2.2.2]) (by kernel_rfl) (fun w193 hg194 => ?_) (fun w193 hg194 => ?_)
        ·
         have hz195 := hg194.size
         have hB196 := fbU_at hB146 hg191 (fun hlt => absurd hlt (by omega))
         have hB197 := fbU_new hB196 hg194
         have hk198 := hk148.kept hg191 (by simp; omega)
         have hk199 := hk198.kept hg194 (by simp)
         have hk200 := hk189'.kept hg194 (by simp)
         exact ⟨hB197, hk199, hk200⟩
        have hz201 := hg194.size
        have hB202 := fbU_at hB146 hg191 (fun hlt => absurd hlt (by omega))
        have hB203 := fbU_new hB202 hg194
        have hk204 := hk148.kept hg191 (by simp; omega)
        have hk205 := hk204.kept hg194 (by simp)
        have hk206 := hk189'.kept hg194 (by simp)
        refine dk0 0 (v := pt d 0) h187 rfl rfl ⟨hB203, hk205, hk206⟩ fun a207 h207 => ?_; clear h187
        refine dk0 1 (v := pt d 0) h207 rfl rfl ⟨hB203, hk205, hk206⟩ fun a208 h208 => ?_; clear h207
        refine dk0 2 (v := pt d 1) h208 rfl rfl ⟨hB203, hk205, hk206⟩ fun a209 h209 => ?_; clear h208
        refine dk 3 (v := .map (some M)) h209 rfl rfl ⟨hB203, hk205, hk206⟩ (fun x hx => (rn_load1 rfl rfl Try.isAgg44 (hx.2.1.cell rfl))) fun a210 h210 => ?_; clear h209
        refine dk0 4 (v := .int .i64 y107) h210 rfl rfl ⟨hB203, hk205, hk206⟩ fun a211 h211 => ?_; clear h210
        refine dk 5 (v := .agg #[subV (f116.1) 0 ((f116.2.2.1).toNat) 1, .int .i64 f116.2.2.1, .bool f116.2.2.2]) h211 rfl rfl ⟨hB203, hk205, hk206⟩ (fun x hx => (rn_loadN rfl rfl Try.underlying122 rfl (by kernel_rfl) hx.2.2.all)) fun a212 h212 => ?_; clear h211
        have hM218 := hM150.kept hg191 (by simp; omega)
        have hM219 := hM218.kept hg194 (by simp)
        refine d1D 6 h212 rfl rfl (op_updateO (a := y107) (v := (subV (f116.1) 0 ((f116.2.2.1).toNat) 1, f116.2.1.take ((f116.2.2.1).toNat), f116.2.2.1, f116.2.2.2)) (intKL Try.underlying3) rfl rfl rfl rfl Try.underlying44 hM219) ?_ ?_; clear h212
        ·
         rintro _ w214 ⟨hm215, hz216, hg217⟩
         have hr221 := row_kept_at hr183 hg191 (ha133)
         have hr222 := row_kept_new hr221 hg194
         have hF223 := hF154.blk hk137' (by decide) hg191
         have hF224 := hF223.new hg194
         have hr225 := row_kept_at hr184 hg191 (own_neT hr184 hk137' (by decide))
         have hr226 := row_kept_new hr225 hg194
         have hF220 := Fam.put (u := (subV (f116.1) 0 ((f116.2.2.1).toNat) 1)) (l := (f116.2.1.take ((f116.2.2.1).toNat))) (sf := f116.2.2.1) (b0 := f116.2.2.2) hF224 hf117 hr226 (cut_block hr222 _)
         have hz227 := hg217.size
         have hl228 := hm215.lt
         have hB229 := fbU_at hB203 hg217 (fun hlt => by rcases hO44.sM with hq | hq; exact hq; omega)
         have hk230 := hk205.kept hg217 (by simp; omega)
         have hk231 := hk206.kept hg217 (by simp; omega)
         exact ⟨hB229, hk230, hk231⟩
        rintro _ w214 a213 ⟨hm215, hz216, hg217⟩ h213
        have hr221 := row_kept_at hr183 hg191 (ha133)
        have hr222 := row_kept_new hr221 hg194
        have hF223 := hF154.blk hk137' (by decide) hg191
        have hF224 := hF223.new hg194
        have hr225 := row_kept_at hr184 hg191 (own_neT hr184 hk137' (by decide))
        have hr226 := row_kept_new hr225 hg194
        have hF220 := Fam.put (u := (subV (f116.1) 0 ((f116.2.2.1).toNat) 1)) (l := (f116.2.1.take ((f116.2.2.1).toNat))) (sf := f116.2.2.1) (b0 := f116.2.2.2) hF224 hf117 hr226 (cut_block hr222 _)
        have hz227 := hg217.size
        have hl228 := hm215.lt
        refine dr_done (by kernel_rfl) ?_
        refine co_blockN ?_
        refine co_then ?_
        refine co_reg ?_
        refine pk (v := .int .i64 ((j + 1 : Nat) : Int)) h213 rfl (rn_arith' rfl rfl rfl rfl rfl rfl (IntWalk.i64_in _ (by omega)) (by omega)) fun a229 h229 => ?_; clear h213
        refine pk0 (v := .int .i64 ((j + 1 : Nat) : Int)) h229 rfl fun a230 h230 => ?_; clear h229
        refine pl_nil ?_
        refine co_then ?_
        refine ⟨(ys48.length - (j + 1)), by omega, ?_⟩
        have htb : (getF X.2.2 y107).2.2 = f116.2.2.2 := by rw [← htp.1, ← hgf120]
        have hrl2' : ∀ k, ((fun b => if b = y107 then some (subV (f116.1) 0 ((f116.2.2.1).toNat) 1, f116.2.1.take ((f116.2.2.1).toNat), f116.2.2.1, f116.2.2.2) else g2 b) k).map (·.2) = trP X.2.2 ys48 (j + 1) k := by
          have hq := tr_put (v := subV f116.1 0 f116.2.2.1.toNat 1) hrl2 hK2 hy107 (by rw [htb]; assumption)
          rw [← htp.1, ← hgf120] at hq; exact hq
        have hr231 := row_kept_at hr152 hg191 (ha131)
        have hr232 := row_kept_new hr231 hg194
        have hr233 := row_kept_at hr232 hg217 (hM219.row hr232)
        have hF234 := hF220.map hM219 hg217
        have hr235 := row_kept_at hr156 hg191 (ha132)
        have hr236 := row_kept_new hr235 hg194
        have hr237 := row_kept_at hr236 hg217 (hM219.row hr236)
        have hB238 := fbU_at hB203 hg217 (fun hlt => by rcases hO44.sM with hq | hq; exact hq; omega)
        have hk239 := hk205.kept hg217 (by simp; omega)
        exact ⟨j + 1, (fun b => if b = y107 then some (subV (f116.1) 0 ((f116.2.2.1).toNat) 1, f116.2.1.take ((f116.2.2.1).toNat), f116.2.2.1, f116.2.2.2) else g2 b), c2 + 1, h230.sub ⟨rfl, rfl, rfl, rfl, trivial⟩, rfl, by omega, by omega, by first | exact hrl2' | (rw [trP_0]; exact hO44.rel), (fun_eq hm215 (by first | rfl | (funext b; rfl)) (by omega)), hr233, hF234, hr237, hB238, hk239⟩
   ·
    rw [hc39] at h38
    have hp240 : ((i : Nat) : Int) < ((s.ps.length : Nat) : Int) := of_decide_eq_true hc39
    clear hc39
    refine co_true h38 rfl ?_
    refine wp_skip ?_
    refine co_then ?_
    refine co_seq ?_
    refine wp_block ?_
    refine co_seq ?_
    refine co_reg ?_
    obtain ⟨y241, hy241⟩ : ∃ z, s.ps[i]? = some z := ⟨_, List.getElem?_eq_getElem (by first | omega | (simp; done) | (simp; omega))⟩
    have oky241 := (fun (z : PcT) (_ : z ∈ s.ps) => trivial) _ (List.mem_of_getElem? hy241)
    have hcq := hcr i X y241 hX hy241
    refine pk (v := pt (blkOf pv) (offOf pv + i * 2)) h38 rfl (rn_index rfl rfl rfl Try.underlying45 Try.sizeOf124 (row_sl hf31 pieceE_len) (by omega) (by first | omega | (simp; done) | (simp; omega))) fun a242 h242 => ?_; clear h38
    refine pk (v := .agg #[.int .i64 y241.1, .int .i64 y241.2]) h242 rfl (rn_loadN rfl rfl Try.underlying124 rfl (by kernel_rfl) (sl_at (row_sl hf31 pieceE_len) hy241)) fun a243 h243 => ?_; clear h242
    refine pw h243 rfl (op_new (v := fun N => pt N 0) (T := 124) (cs := #[.int .i64 0, .int .i64 0]) (by kernel_rfl) (by kernel_rfl) (by kernel_rfl)) ?_; clear h243
    rintro _ w245 a244 ⟨N246, rfl, hN249, hz250, hk248, hg247⟩ h244
    have ha251 := row_fresh hf31 hN249
    have hz252 := hg247.size
    try dsimp only at h244
    refine pwD h244 rfl (op_storeN rfl rfl rfl (by kernel_rfl) (by kernel_rfl) hk248 rfl) ?_; clear h244
    rintro _ w254 a253 ⟨hk255, hz256, hg257⟩ h253
    have hk255' : Blk w254 N246 124 #[.int .i64 y241.1, .int .i64 y241.2] := hk255; clear hk255
    have hz258 := hg257.size
    refine pl_nil ?_
    refine co_then ?_
    refine co_seq ?_
    refine co_reg ?_
    refine pk0 (v := pt N246 1) h253 rfl fun a259 h259 => ?_; clear h253
    refine pk (v := .int .i64 y241.2) h259 rfl (rn_load1 rfl rfl Try.isAgg3 (hk255'.cell rfl)) fun a260 h260 => ?_; clear h259
    refine pk0 (v := .int .i64 X.1) h260 rfl fun a261 h261 => ?_; clear h260
    obtain ⟨kp262, hkp263⟩ : ∃ z : Int, z = (if X.1 < y241.2 then X.1 else y241.2) := ⟨_, rfl⟩
    have hq264 : kp262 ≤ y241.2 ∧ kp262 ≤ X.1 ∧ (kp262 = y241.2 ∨ kp262 = X.1) := by rw [hkp263]; split <;> omega
    refine pk (v := .int .i64 kp262) h261 rfl (by rw [hkp263]; kernel_rfl) fun a265 h265 => ?_; clear h261
    refine pk0 (v := .int .i64 kp262) h265 rfl fun a266 h266 => ?_; clear h265
    refine pl_nil ?_
    refine co_then ?_
    refine co_seq ?_
    refine co_reg ?_
    refine pk0 (v := .int .i64 X.1) h266 rfl fun a267 h267 => ?_; clear h266
    refine pk0 (v := .int .i64 kp262) h267 rfl fun a268 h268 => ?_; clear h267
    refine pk (v := .int .i64 (X.1 - kp262)) h268 rfl (rn_arith rfl rfl rfl rfl rfl rfl (IntWalk.i64_in _ (by omega))) fun a269 h269 => ?_; clear h268
    refine pk0 (v := .int .i64 (X.1 - kp262)) h269 rfl fun a270 h270 => ?_; clear h269
    refine pl_nil ?_
    refine co_then ?_
    refine co_seq ?_
    refine co_seq ?_
    refine co_reg ?_
    refine pk0 (v := .int .i64 kp262) h270 rfl fun a271 h271 => ?_; clear h270
    refine pk0 (v := .bool (decide (kp262 > 0))) h271 rfl fun a272 h272 => ?_; clear h271
    refine pk0 (v := .bool (decide (kp262 > 0))) h272 rfl fun a273 h273 => ?_; clear h272
    have hB275 := fbU_new hB33 hg247
    have hB276 := fbU_at hB275 hg257 (fun hlt => absurd hlt (by omega))
    have hk277 := hk34.kept hg247 (by simp)
    have hk278 := hk277.kept hg257 (by simp; omega)
    have hM279 := hf30.kept hg247 (by simp)
    have hM280 := hM279.kept hg257 (by simp; omega)
    have hr281 := row_kept_new hf31 hg247
    have hr282 := row_kept_at hr281 hg257 (ha251)
    have hF283 := hf32.new hg247
    have hF284 := hF283.blk hk248 (by decide) hg257
    cases hc274 : (decide (kp262 > 0))
    ·
     rw [hc274] at h273
     have hp285 : ¬ (kp262 > 0) := of_decide_eq_false hc274
     clear hc274
     refine pk0 (v := pt N246 1) h273 rfl fun a286 h286 => ?_; clear h273
     refine pk (v := .int .i64 y241.2) h286 rfl (rn_load1 rfl rfl Try.isAgg3 (hk255'.cell rfl)) fun a287 h287 => ?_; clear h286
     refine pk0 (v := .bool (y241.2 == 0)) h287 rfl fun a288 h288 => ?_; clear h287
     refine pk0 (v := .bool (y241.2 == 0)) h288 rfl fun a289 h289 => ?_; clear h288
     cases hc290 : (y241.2 == 0)
     ·
      rw [hc290] at h289
      have hp291 : ¬ (y241.2 = 0) := by first | simpa using hc290 | simpa [and_assoc] using hc290
      clear hc290
      refine psk h289 rfl fun a292 h292 => ?_; clear h289
      refine pk0 (v := .bool false) h292 rfl fun a293 h293 => ?_; clear h292
      refine pk0 (v := .bool false) h293 rfl fun a294 h294 => ?_; clear h293
      refine pl_nil ?_
      refine co_then ?_
      refine co_false h294 rfl ?_
      refine wp_skip ?_
      refine co_then ?_
      refine co_reg ?_
      refine pk0 (v := .bool X.2.1) h294 rfl fun a295 h295 => ?_; clear h294
      refine pk0 (v := .bool X.2.1) h295 rfl fun a296 h296 => ?_; clear h295
      cases hc297 : (X.2.1)
      ·
       rw [hc297] at h296
       refine psk h296 rfl fun a298 h298 => ?_; clear h296
       refine psk h298 rfl fun a299 h299 => ?_; clear h298
       refine psk h299 rfl fun a300 h300 => ?_; clear h299
       refine psk h300 rfl fun a301 h301 => ?_; clear h300
       refine pk0 (v := .bool false) h301 rfl fun a302 h302 => ?_; clear h301
       refine pk0 (v := .bool false) h302 rfl fun a303 h303 => ?_; clear h302
       refine pl_nil ?_
       refine co_blockN ?_
       refine co_then ?_
       refine co_reg ?_
       refine pk (v := .int .i64 ((i + 1 : Nat) : Int)) h303 rfl (rn_arith' rfl rfl rfl rfl rfl rfl (IntWalk.i64_in _ (by omega)) (by omega)) fun a304 h304 => ?_; clear h303
       refine pk0 (v := .int .i64 ((i + 1 : Nat) : Int)) h304 rfl fun a305 h305 => ?_; clear h304
       refine pl_nil ?_
       refine co_then ?_
       refine ⟨(s.ps.length - (i + 1)), by omega, ?_⟩
       have hX' := crRun_at hX hy241
       have hrl' : ∀ k, (g1 k).map (·.2) = (crStep X y241).2.2 k := by
         rw [← cr_n hkp263 (by omega) (by first | exact .inl (by omega) | exact .inr (by assumption))]; exact hrl
       exact ⟨i + 1, (crStep X y241), g1, c1, h305.sub ⟨rfl, (slot_eq rfl (congrArg (Value.int .i64) (by first | exact cr_l (by assumption) | assumption))), (slot_eq rfl (congrArg Value.bool (by first | rfl | exact cr_wf (by assumption) | exact cr_w (by assumption) (by assumption)))), rfl, rfl, rfl, trivial⟩, rfl, by omega, by omega, by first | exact hX' | rfl, by first | exact hrl' | exact hO.rel, (fun_eq hM280 (by first | rfl | (funext b; rfl)) (by omega)), hr282, hF284, hB276, hk278⟩
      ·
       rw [hc297] at h296
       refine pk0 (v := .int .i64 kp262) h296 rfl fun a306 h306 => ?_; clear h296
       refine pk0 (v := pt N246 1) h306 rfl fun a307 h307 => ?_; clear h306
       refine pk (v := .int .i64 y241.2) h307 rfl (rn_load1 rfl rfl Try.isAgg3 (hk255'.cell rfl)) fun a308 h308 => ?_; clear h307
       refine pk0 (v := .bool (kp262 == y241.2)) h308 rfl fun a309 h309 => ?_; clear h308
       refine pk0 (v := .bool (kp262 == y241.2)) h309 rfl fun a310 h310 => ?_; clear h309
       refine pk0 (v := .bool (kp262 == y241.2)) h310 rfl fun a311 h311 => ?_; clear h310
       refine pl_nil ?_
       refine co_blockN ?_
       refine co_then ?_
       refine co_reg ?_
       refine pk (v := .int .i64 ((i + 1 : Nat) : Int)) h311 rfl (rn_arith' rfl rfl rfl rfl rfl rfl (IntWalk.i64_in _ (by omega)) (by omega)) fun a312 h312 => ?_; clear h311
       refine pk0 (v := .int .i64 ((i + 1 : Nat) : Int)) h312 rfl fun a313 h313 => ?_; clear h312
       refine pl_nil ?_
       refine co_then ?_
       refine ⟨(s.ps.length - (i + 1)), by omega, ?_⟩
       have hX' := crRun_at hX hy241
       have hrl' : ∀ k, (g1 k).map (·.2) = (crStep X y241).2.2 k := by
         rw [← cr_n hkp263 (by omega) (by first | exact .inl (by omega) | exact .inr (by assumption))]; exact hrl
       exact ⟨i + 1, (crStep X y241), g1, c1, h313.sub ⟨rfl, (slot_eq rfl (congrArg (Value.int .i64) (by first | exact cr_l (by assumption) | assumption))), (slot_eq rfl (congrArg Value.bool (by first | rfl | exact cr_wf (by assumption) | exact cr_w (by assumption) (by assumption)))), rfl, rfl, rfl, trivial⟩, rfl, by omega, by omega, by first | exact hX' | rfl, by first | exact hrl' | exact hO.rel, (fun_eq hM280 (by first | rfl | (funext b; rfl)) (by omega)), hr282, hF284, hB276, hk278⟩
     ·
      rw [hc290] at h289
      have hp314 : y241.2 = 0 := by first | simpa using hc290 | simpa [and_assoc] using hc290
      clear hc290
      refine pk0 (v := .bool X.2.1) h289 rfl fun a315 h315 => ?_; clear h289
      refine pk0 (v := .bool X.2.1) h315 rfl fun a316 h316 => ?_; clear h315
      refine pk0 (v := .bool X.2.1) h316 rfl fun a317 h317 => ?_; clear h316
      refine pl_nil ?_
      refine co_then ?_
      cases hc318 : (X.2.1)
      ·
       rw [hc318] at h317
       refine co_false h317 rfl ?_
       refine wp_skip ?_
       refine co_then ?_
       refine co_reg ?_
       refine pk0 (v := .bool false) h317 rfl fun a319 h319 => ?_; clear h317
       refine pk0 (v := .bool false) h319 rfl fun a320 h320 => ?_; clear h319
       refine psk h320 rfl fun a321 h321 => ?_; clear h320
       refine psk h321 rfl fun a322 h322 => ?_; clear h321
       refine psk h322 rfl fun a323 h323 => ?_; clear h322
       refine psk h323 rfl fun a324 h324 => ?_; clear h323
       refine pk0 (v := .bool false) h324 rfl fun a325 h325 => ?_; clear h324
       refine pk0 (v := .bool false) h325 rfl fun a326 h326 => ?_; clear h325
       refine pl_nil ?_
       refine co_blockN ?_
       refine co_then ?_
       refine co_reg ?_
       refine pk (v := .int .i64 ((i + 1 : Nat) : Int)) h326 rfl (rn_arith' rfl rfl rfl rfl rfl rfl (IntWalk.i64_in _ (by omega)) (by omega)) fun a327 h327 => ?_; clear h326
       refine pk0 (v := .int .i64 ((i + 1 : Nat) : Int)) h327 rfl fun a328 h328 => ?_; clear h327
       refine pl_nil ?_
       refine co_then ?_
       refine ⟨(s.ps.length - (i + 1)), by omega, ?_⟩
       have hX' := crRun_at hX hy241
       have hrl' : ∀ k, (g1 k).map (·.2) = (crStep X y241).2.2 k := by
         rw [← cr_n hkp263 (by omega) (by first | exact .inl (by omega) | exact .inr (by assumption))]; exact hrl
       exact ⟨i + 1, (crStep X y241), g1, c1, h328.sub ⟨rfl, (slot_eq rfl (congrArg (Value.int .i64) (by first | exact cr_l (by assumption) | assumption))), (slot_eq rfl (congrArg Value.bool (by first | rfl | exact cr_wf (by assumption) | exact cr_w (by assumption) (by assumption)))), rfl, rfl, rfl, trivial⟩, rfl, by omega, by omega, by first | exact hX' | rfl, by first | exact hrl' | exact hO.rel, (fun_eq hM280 (by first | rfl | (funext b; rfl)) (by omega)), hr282, hF284, hB276, hk278⟩
      ·
       rw [hc318] at h317
       refine co_true h317 rfl ?_
       refine co_seq ?_
       refine dr_gen (fun x => But (S) w0 x ∧ Blk x d 47 #[.bool true, .map (some M), pv, .int .i64 s.ser, .int .i64 s.boots] ∧ Blk x N246 124 #[.int .i64 y241.1, .int .i64 y241.2]) (by kernel_rfl) (fun w329 hg330 => ?_) (fun w329 hg330 => ?_)
       ·
        have hz331 := hg330.size
        have hB332 := fbU_new hB276 hg330
        have hk333 := hk278.kept hg330 (by simp)
        have hk334 := hk255'.kept hg330 (by simp)
        exact ⟨hB332, hk333, hk334⟩
       have hz335 := hg330.size
       have hB336 := fbU_new hB276 hg330
       have hk337 := hk278.kept hg330 (by simp)
       have hk338 := hk255'.kept hg330 (by simp)
       refine dk0 0 (v := pt d 0) h317 rfl rfl ⟨hB336, hk337, hk338⟩ fun a339 h339 => ?_; clear h317
       refine dk0 1 (v := pt d 0) h339 rfl rfl ⟨hB336, hk337, hk338⟩ fun a340 h340 => ?_; clear h339
       refine dk0 2 (v := pt d 1) h340 rfl rfl ⟨hB336, hk337, hk338⟩ fun a341 h341 => ?_; clear h340
       refine dk 3 (v := .map (some M)) h341 rfl rfl ⟨hB336, hk337, hk338⟩ (fun x hx => (rn_load1 rfl rfl Try.isAgg44 (hx.2.1.cell rfl))) fun a342 h342 => ?_; clear h341
       refine dk0 4 (v := pt N246 0) h342 rfl rfl ⟨hB336, hk337, hk338⟩ fun a343 h343 => ?_; clear h342
       refine dk 5 (v := .int .i64 y241.1) h343 rfl rfl ⟨hB336, hk337, hk338⟩ (fun x hx => (rn_load1 rfl rfl Try.isAgg3 (hx.2.2.cell rfl))) fun a344 h344 => ?_; clear h343
       refine dr_many [6, 7] (by kernel_rfl) (by simp) ⟨?_, ?_, trivial⟩
       ·
        have hF348 := hF284.new hg330
        have hM353 := hM280.kept hg330 (by simp)
        obtain ⟨f345, hf346⟩ : ∃ z, (g1 y241.1).getD fz = z := ⟨_, rfl⟩
        have hA347 := hF348.at hf346
        have hl349 := sl_len (row_sl hA347.1 u8E_len)
        have hgf350 := getF_eq hrl hf346
        have hgl351 : f345.2.1.length = (getF X.2.2 y241.1).1.length := by rw [hgf350]
        have hgs352 : f345.2.2.1 = (getF X.2.2 y241.1).2.1 := by rw [hgf350]
        refine dr_opVal (i := 6) (v := .agg #[f345.1, .int .i64 f345.2.2.1, .bool f345.2.2.2]) h344 rfl rfl rfl rfl (by kernel_rfl) rfl (rn_lookO (a := y241.1) (f := f345) (intKL Try.underlying3) rfl rfl rfl Try.underlying44 filez hM353 hf346) ⟨hB336, hk337, hk338⟩ (fun a354 h354 => ?_); clear h344
        refine d1 7 h354 rfl rfl (op_new (v := fun N => pt N 0) (T := 122) (cs := #[.slice none 0 0, .int .i64 0, .bool false]) (by kernel_rfl) (by kernel_rfl) (by kernel_rfl)) ?_ ?_; clear h354
        ·
         rintro _ w356 ⟨N357, rfl, hN360, hz361, hk359, hg358⟩
         have hr363 := row_kept_new hr282 hg330
         have ha362 := row_fresh hr363 hN360
         have ha364 := row_fresh hA347.1 hN360
         have hz365 := hg358.size
         have hB366 := fbU_new hB336 hg358
         have hk367 := hk337.kept hg358 (by simp)
         have hk368 := hk338.kept hg358 (by simp)
         exact ⟨hB366, hk367, hk368⟩
        rintro _ w356 a355 ⟨N357, rfl, hN360, hz361, hk359, hg358⟩ h355
        have hr363 := row_kept_new hr282 hg330
        have ha362 := row_fresh hr363 hN360
        have ha364 := row_fresh hA347.1 hN360
        have hz365 := hg358.size
        try dsimp only at h355
        have hB366 := fbU_new hB336 hg358
        have hk367 := hk337.kept hg358 (by simp)
        have hk368 := hk338.kept hg358 (by simp)
        have hr374 := row_kept_new hA347.1 hg358
        refine d1D 8 h355 rfl rfl (op_storeN rfl rfl rfl (all_cons (row_one hr374) (all_cons rfl (all_cons rfl all_nil))) (by kernel_rfl) hk359 rfl) ?_ ?_; clear h355
        ·
         rintro _ w370 ⟨hk371, hz372, hg373⟩
         have hk371' : Blk w370 N357 122 #[f345.1, .int .i64 f345.2.2.1, .bool f345.2.2.2] := hk371; clear hk371
         have hz375 := hg373.size
         have hB376 := fbU_at hB366 hg373 (fun hlt => absurd hlt (by omega))
         have hk377 := hk367.kept hg373 (by simp; omega)
         have hk378 := hk368.kept hg373 (by simp; omega)
         exact ⟨hB376, hk377, hk378⟩
        rintro _ w370 a369 ⟨hk371, hz372, hg373⟩ h369
        have hk371' : Blk w370 N357 122 #[f345.1, .int .i64 f345.2.2.1, .bool f345.2.2.2] := hk371; clear hk371
        have hz375 := hg373.size
        refine dr_done (by kernel_rfl) ?_
        refine co_then ?_
        refine co_seq ?_
        refine co_reg ?_
        refine pk0 (v := pt N357 1) h369 rfl fun a376 h376 => ?_; clear h369
        refine pk (v := .int .i64 f345.2.2.1) h376 rfl (rn_load1 rfl rfl Try.isAgg3 (hk371'.cell rfl)) fun a377 h377 => ?_; clear h376
        refine pk0 (v := .int .i64 kp262) h377 rfl fun a378 h378 => ?_; clear h377
        refine pk (v := .int .i64 (f345.2.2.1 + kp262)) h378 rfl (rn_arith rfl rfl rfl rfl rfl rfl (IntWalk.i64_in _ (by omega))) fun a379 h379 => ?_; clear h378
        refine pk0 (v := pt N357 1) h379 rfl fun a380 h380 => ?_; clear h379
        refine pwD h380 rfl (op_store1 rfl rfl rfl rfl Try.sizeOf3 hk371' rfl) ?_; clear h380
        rintro _ w382 a381 ⟨hk383, hz384, hg385⟩ h381
        have hk383' : Blk w382 N357 122 #[f345.1, .int .i64 (f345.2.2.1 + kp262), .bool f345.2.2.2] := hk383; clear hk383
        have hz386 := hg385.size
        refine pk0 (v := pt N357 2) h381 rfl fun a387 h387 => ?_; clear h381
        refine pwD h387 rfl (op_store1 rfl rfl rfl rfl Try.sizeOf4 hk383' rfl) ?_; clear h387
        rintro _ w389 a388 ⟨hk390, hz391, hg392⟩ h388
        have hk390' : Blk w389 N357 122 #[f345.1, .int .i64 (f345.2.2.1 + kp262), .bool true] := hk390; clear hk390
        have hz393 := hg392.size
        refine pl_nil ?_
        refine co_then ?_
        refine dr_gen (fun x => But (S) w0 x ∧ Blk x d 47 #[.bool true, .map (some M), pv, .int .i64 s.ser, .int .i64 s.boots] ∧ Blk x N246 124 #[.int .i64 y241.1, .int .i64 y241.2] ∧ Blk x N357 122 #[f345.1, .int .i64 (f345.2.2.1 + kp262), .bool true]) (by kernel_rfl) (fun w394 hg395 => ?_) (fun w394 hg395 => ?_)
        ·
         have hz396 := hg395.size
         have hB397 := fbU_at hB366 hg373 (fun hlt => absurd hlt (by omega))
         have hB398 := fbU_at hB397 hg385 (fun hlt => absurd hlt (by omega))
         have hB399 := fbU_at hB398 hg392 (fun hlt => absurd hlt (by omega))
         have hB400 := fbU_new hB399 hg395
         have hk401 := hk367.kept hg373 (by simp; omega)
         have hk402 := hk401.kept hg385 (by simp; omega)
         have hk403 := hk402.kept hg392 (by simp; omega)
         have hk404 := hk403.kept hg395 (by simp)
         have hk405 := hk368.kept hg373 (by simp; omega)
         have hk406 := hk405.kept hg385 (by simp; omega)
         have hk407 := hk406.kept hg392 (by simp; omega)
         have hk408 := hk407.kept hg395 (by simp)
         have hk409 := hk390'.kept hg395 (by simp)
         exact ⟨hB400, hk404, hk408, hk409⟩
        have hz410 := hg395.size
        have hB411 := fbU_at hB366 hg373 (fun hlt => absurd hlt (by omega))
        have hB412 := fbU_at hB411 hg385 (fun hlt => absurd hlt (by omega))
        have hB413 := fbU_at hB412 hg392 (fun hlt => absurd hlt (by omega))
        have hB414 := fbU_new hB413 hg395
        have hk415 := hk367.kept hg373 (by simp; omega)
        have hk416 := hk415.kept hg385 (by simp; omega)
        have hk417 := hk416.kept hg392 (by simp; omega)
        have hk418 := hk417.kept hg395 (by simp)
        have hk419 := hk368.kept hg373 (by simp; omega)
        have hk420 := hk419.kept hg385 (by simp; omega)
        have hk421 := hk420.kept hg392 (by simp; omega)
        have hk422 := hk421.kept hg395 (by simp)
        have hk423 := hk390'.kept hg395 (by simp)
        refine dk0 0 (v := pt d 0) h388 rfl rfl ⟨hB414, hk418, hk422, hk423⟩ fun a424 h424 => ?_; clear h388
        refine dk0 1 (v := pt d 0) h424 rfl rfl ⟨hB414, hk418, hk422, hk423⟩ fun a425 h425 => ?_; clear h424
        refine dk0 2 (v := pt d 1) h425 rfl rfl ⟨hB414, hk418, hk422, hk423⟩ fun a426 h426 => ?_; clear h425
        refine dk 3 (v := .map (some M)) h426 rfl rfl ⟨hB414, hk418, hk422, hk423⟩ (fun x hx => (rn_load1 rfl rfl Try.isAgg44 (hx.2.1.cell rfl))) fun a427 h427 => ?_; clear h426
        refine dk0 4 (v := pt N246 0) h427 rfl rfl ⟨hB414, hk418, hk422, hk423⟩ fun a428 h428 => ?_; clear h427
        refine dk 5 (v := .int .i64 y241.1) h428 rfl rfl ⟨hB414, hk418, hk422, hk423⟩ (fun x hx => (rn_load1 rfl rfl Try.isAgg3 (hx.2.2.1.cell rfl))) fun a429 h429 => ?_; clear h428
        refine dk 6 (v := .agg #[f345.1, .int .i64 (f345.2.2.1 + kp262), .bool true]) h429 rfl rfl ⟨hB414, hk418, hk422, hk423⟩ (fun x hx => (rn_loadN rfl rfl Try.underlying122 rfl (by kernel_rfl) hx.2.2.2.all)) fun a430 h430 => ?_; clear h429
        have hM436 := hM353.kept hg358 (by simp)
        have hM437 := hM436.kept hg373 (by simp; omega)
        have hM438 := hM437.kept hg385 (by simp; omega)
        have hM439 := hM438.kept hg392 (by simp; omega)
        have hM440 := hM439.kept hg395 (by simp)
        refine d1D 7 h430 rfl rfl (op_updateO (a := y241.1) (v := (f345.1, f345.2.1, f345.2.2.1 + kp262, true)) (intKL Try.underlying3) rfl rfl rfl rfl Try.underlying44 hM440) ?_ ?_; clear h430
        ·
         rintro _ w432 ⟨hm433, hz434, hg435⟩
         have hF442 := hF348.new hg358
         have hF443 := hF442.blk hk359 (by decide) hg373
         have hF444 := hF443.blk hk371' (by decide) hg385
         have hF445 := hF444.blk hk383' (by decide) hg392
         have hF446 := hF445.new hg395
         have hr447 := row_kept_at hr374 hg373 (ha364)
         have hr448 := row_kept_at hr447 hg385 (ha364)
         have hr449 := row_kept_at hr448 hg392 (ha364)
         have hr450 := row_kept_new hr449 hg395
         have hF441 := Fam.put (u := (f345.1)) (l := f345.2.1) (sf := (f345.2.2.1 + kp262)) (b0 := true) hF446 hf346 hr450 rfl
         have hz451 := hg435.size
         have hl452 := hm433.lt
         have hB453 := fbU_at hB414 hg435 (fun hlt => by rcases hO.sM with hq | hq; exact hq; omega)
         have hk454 := hk418.kept hg435 (by simp; omega)
         have hk455 := hk422.kept hg435 (by simp; omega)
         have hk456 := hk423.kept hg435 (by simp; omega)
         exact ⟨hB453, hk454, hk455, hk456⟩
        rintro _ w432 a431 ⟨hm433, hz434, hg435⟩ h431
        have hF442 := hF348.new hg358
        have hF443 := hF442.blk hk359 (by decide) hg373
        have hF444 := hF443.blk hk371' (by decide) hg385
        have hF445 := hF444.blk hk383' (by decide) hg392
        have hF446 := hF445.new hg395
        have hr447 := row_kept_at hr374 hg373 (ha364)
        have hr448 := row_kept_at hr447 hg385 (ha364)
        have hr449 := row_kept_at hr448 hg392 (ha364)
        have hr450 := row_kept_new hr449 hg395
        have hF441 := Fam.put (u := (f345.1)) (l := f345.2.1) (sf := (f345.2.2.1 + kp262)) (b0 := true) hF446 hf346 hr450 rfl
        have hz451 := hg435.size
        have hl452 := hm433.lt
        refine dr_done (by kernel_rfl) ?_
        refine co_then ?_
        refine co_reg ?_
        refine pk0 (v := .bool true) h431 rfl fun a453 h453 => ?_; clear h431
        refine pk0 (v := .bool true) h453 rfl fun a454 h454 => ?_; clear h453
        refine pk0 (v := .int .i64 kp262) h454 rfl fun a455 h455 => ?_; clear h454
        refine pk0 (v := pt N246 1) h455 rfl fun a456 h456 => ?_; clear h455
        have hk457 := hk422.kept hg435 (by simp; omega)
        refine pk (v := .int .i64 y241.2) h456 rfl (rn_load1 rfl rfl Try.isAgg3 (hk457.cell rfl)) fun a458 h458 => ?_; clear h456
        refine pk0 (v := .bool (kp262 == y241.2)) h458 rfl fun a459 h459 => ?_; clear h458
        refine pk0 (v := .bool (kp262 == y241.2)) h459 rfl fun a460 h460 => ?_; clear h459
        refine pk0 (v := .bool (kp262 == y241.2)) h460 rfl fun a461 h461 => ?_; clear h460
        refine pl_nil ?_
        refine co_blockN ?_
        refine co_then ?_
        refine co_reg ?_
        refine pk (v := .int .i64 ((i + 1 : Nat) : Int)) h461 rfl (rn_arith' rfl rfl rfl rfl rfl rfl (IntWalk.i64_in _ (by omega)) (by omega)) fun a462 h462 => ?_; clear h461
        refine pk0 (v := .int .i64 ((i + 1 : Nat) : Int)) h462 rfl fun a463 h463 => ?_; clear h462
        refine pl_nil ?_
        refine co_then ?_
        refine ⟨(s.ps.length - (i + 1)), by omega, ?_⟩
        have hX' := crRun_at hX hy241
        have hrl' : ∀ k, ((fun b => if b = y241.1 then some (f345.1, f345.2.1, f345.2.2.1 + kp262, true) else g1 b) k).map (·.2) = (crStep X y241).2.2 k := by
          rw [← cr_p hkp263 (by first | exact .inl (by omega) | exact .inr ⟨by omega, by assumption⟩), ← hgf350]; exact putF_eq hrl
        have hr464 := row_kept_new hr363 hg358
        have hr465 := row_kept_at hr464 hg373 (ha362)
        have hr466 := row_kept_at hr465 hg385 (ha362)
        have hr467 := row_kept_at hr466 hg392 (ha362)
        have hr468 := row_kept_new hr467 hg395
        have hr469 := row_kept_at hr468 hg435 (hM440.row hr468)
        have hF470 := hF441.map hM440 hg435
        have hB471 := fbU_at hB414 hg435 (fun hlt => by rcases hO.sM with hq | hq; exact hq; omega)
        have hk472 := hk418.kept hg435 (by simp; omega)
        exact ⟨i + 1, (crStep X y241), (fun b => if b = y241.1 then some (f345.1, f345.2.1, f345.2.2.1 + kp262, true) else g1 b), c1 + 1, h463.sub ⟨rfl, (slot_eq rfl (congrArg (Value.int .i64) (by first | exact cr_l (by assumption) | assumption))), (slot_eq rfl (congrArg Value.bool (by first | rfl | exact cr_wf (by assumption) | exact cr_w (by assumption) (by assumption)))), rfl, rfl, rfl, trivial⟩, rfl, by omega, by omega, by first | exact hX' | rfl, by first | exact hrl' | exact hO.rel, (fun_eq hm433 (by first | rfl | (funext b; rfl)) (by omega)), hr469, hF470, hB471, hk472⟩
       ·
        refine dr_op (i := 7) h344 rfl rfl rfl rfl (op_new (v := fun N => pt N 0) (T := 122) (cs := #[.slice none 0 0, .int .i64 0, .bool false]) (by kernel_rfl) (by kernel_rfl) (by kernel_rfl)) ?_ ?_; clear h344
        ·
         rintro _ w474 ⟨N475, rfl, hN478, hz479, hk477, hg476⟩
         have hr481 := row_kept_new hr282 hg330
         have ha480 := row_fresh hr481 hN478
         have hz482 := hg476.size
         have hB483 := fbU_new hB336 hg476
         have hk484 := hk337.kept hg476 (by simp)
         have hk485 := hk338.kept hg476 (by simp)
         exact ⟨hB483, hk484, hk485⟩
        rintro _ w474 a473 ⟨N475, rfl, hN478, hz479, hk477, hg476⟩ h473
        have hr481 := row_kept_new hr282 hg330
        have ha480 := row_fresh hr481 hN478
        have hz482 := hg476.size
        try dsimp only at h473
        have hB483 := fbU_new hB336 hg476
        have hk484 := hk337.kept hg476 (by simp)
        have hk485 := hk338.kept hg476 (by simp)
        refine dr_many [6] (by kernel_rfl) (by simp) ⟨?_, trivial⟩
        ·
         have hF489 := hF284.new hg330
         have hF490 := hF489.new hg476
         have hM495 := hM280.kept hg330 (by simp)
         have hM496 := hM495.kept hg476 (by simp)
         obtain ⟨f486, hf487⟩ : ∃ z, (g1 y241.1).getD fz = z := ⟨_, rfl⟩
         have hA488 := hF490.at hf487
         have hl491 := sl_len (row_sl hA488.1 u8E_len)
         have hgf492 := getF_eq hrl hf487
         have hgl493 : f486.2.1.length = (getF X.2.2 y241.1).1.length := by rw [hgf492]
         have hgs494 : f486.2.2.1 = (getF X.2.2 y241.1).2.1 := by rw [hgf492]
         refine dr_opVal (i := 6) (v := .agg #[f486.1, .int .i64 f486.2.2.1, .bool f486.2.2.2]) h473 rfl rfl rfl rfl (by kernel_rfl) rfl (rn_lookO (a := y241.1) (f := f486) (intKL Try.underlying3) rfl rfl rfl Try.underlying44 filez hM496 hf487) ⟨hB483, hk484, hk485⟩ (fun a497 h497 => ?_); clear h473
         refine d1D 8 h497 rfl rfl (op_storeN rfl rfl rfl (all_cons (row_one hA488.1) (all_cons rfl (all_cons rfl all_nil))) (by kernel_rfl) hk477 rfl) ?_ ?_; clear h497
         ·
          rintro _ w499 ⟨hk500, hz501, hg502⟩
          have hk500' : Blk w499 N475 122 #[f486.1, .int .i64 f486.2.2.1, .bool f486.2.2.2] := hk500; clear hk500
          have hz503 := hg502.size
          have hB504 := fbU_at hB483 hg502 (fun hlt => absurd hlt (by omega))
          have hk505 := hk484.kept hg502 (by simp; omega)
          have hk506 := hk485.kept hg502 (by simp; omega)
          exact ⟨hB504, hk505, hk506⟩
         rintro _ w499 a498 ⟨hk500, hz501, hg502⟩ h498
         have hk500' : Blk w499 N475 122 #[f486.1, .int .i64 f486.2.2.1, .bool f486.2.2.2] := hk500; clear hk500
         have hz503 := hg502.size
         refine dr_done (by kernel_rfl) ?_
         refine co_then ?_
         refine co_seq ?_
         refine co_reg ?_
         refine pk0 (v := pt N475 1) h498 rfl fun a504 h504 => ?_; clear h498
         refine pk (v := .int .i64 f486.2.2.1) h504 rfl (rn_load1 rfl rfl Try.isAgg3 (hk500'.cell rfl)) fun a505 h505 => ?_; clear h504
         refine pk0 (v := .int .i64 kp262) h505 rfl fun a506 h506 => ?_; clear h505
         refine pk (v := .int .i64 (f486.2.2.1 + kp262)) h506 rfl (rn_arith rfl rfl rfl rfl rfl rfl (IntWalk.i64_in _ (by omega))) fun a507 h507 => ?_; clear h506
         refine pk0 (v := pt N475 1) h507 rfl fun a508 h508 => ?_; clear h507
         refine pwD h508 rfl (op_store1 rfl rfl rfl rfl Try.sizeOf3 hk500' rfl) ?_; clear h508
         rintro _ w510 a509 ⟨hk511, hz512, hg513⟩ h509
         have hk511' : Blk w510 N475 122 #[f486.1, .int .i64 (f486.2.2.1 + kp262), .bool f486.2.2.2] := hk511; clear hk511
         have hz514 := hg513.size
         refine pk0 (v := pt N475 2) h509 rfl fun a515 h515 => ?_; clear h509
         refine pwD h515 rfl (op_store1 rfl rfl rfl rfl Try.sizeOf4 hk511' rfl) ?_; clear h515
         rintro _ w517 a516 ⟨hk518, hz519, hg520⟩ h516
         have hk518' : Blk w517 N475 122 #[f486.1, .int .i64 (f486.2.2.1 + kp262), .bool true] := hk518; clear hk518
         have hz521 := hg520.size
         refine pl_nil ?_
         refine co_then ?_
         refine dr_gen (fun x => But (S) w0 x ∧ Blk x d 47 #[.bool true, .map (some M), pv, .int .i64 s.ser, .int .i64 s.boots] ∧ Blk x N246 124 #[.int .i64 y241.1, .int .i64 y241.2] ∧ Blk x N475 122 #[f486.1, .int .i64 (f486.2.2.1 + kp262), .bool true]) (by kernel_rfl) (fun w522 hg523 => ?_) (fun w522 hg523 => ?_)
         ·
          have hz524 := hg523.size
          have hB525 := fbU_at hB483 hg502 (fun hlt => absurd hlt (by omega))
          have hB526 := fbU_at hB525 hg513 (fun hlt => absurd hlt (by omega))
          have hB527 := fbU_at hB526 hg520 (fun hlt => absurd hlt (by omega))
          have hB528 := fbU_new hB527 hg523
          have hk529 := hk484.kept hg502 (by simp; omega)
          have hk530 := hk529.kept hg513 (by simp; omega)
          have hk531 := hk530.kept hg520 (by simp; omega)
          have hk532 := hk531.kept hg523 (by simp)
          have hk533 := hk485.kept hg502 (by simp; omega)
          have hk534 := hk533.kept hg513 (by simp; omega)
          have hk535 := hk534.kept hg520 (by simp; omega)
          have hk536 := hk535.kept hg523 (by simp)
          have hk537 := hk518'.kept hg523 (by simp)
          exact ⟨hB528, hk532, hk536, hk537⟩
         have hz538 := hg523.size
         have hB539 := fbU_at hB483 hg502 (fun hlt => absurd hlt (by omega))
         have hB540 := fbU_at hB539 hg513 (fun hlt => absurd hlt (by omega))
         have hB541 := fbU_at hB540 hg520 (fun hlt => absurd hlt (by omega))
         have hB542 := fbU_new hB541 hg523
         have hk543 := hk484.kept hg502 (by simp; omega)
         have hk544 := hk543.kept hg513 (by simp; omega)
         have hk545 := hk544.kept hg520 (by simp; omega)
         have hk546 := hk545.kept hg523 (by simp)
         have hk547 := hk485.kept hg502 (by simp; omega)
         have hk548 := hk547.kept hg513 (by simp; omega)
         have hk549 := hk548.kept hg520 (by simp; omega)
         have hk550 := hk549.kept hg523 (by simp)
         have hk551 := hk518'.kept hg523 (by simp)
         refine dk0 0 (v := pt d 0) h516 rfl rfl ⟨hB542, hk546, hk550, hk551⟩ fun a552 h552 => ?_; clear h516
         refine dk0 1 (v := pt d 0) h552 rfl rfl ⟨hB542, hk546, hk550, hk551⟩ fun a553 h553 => ?_; clear h552
         refine dk0 2 (v := pt d 1) h553 rfl rfl ⟨hB542, hk546, hk550, hk551⟩ fun a554 h554 => ?_; clear h553
         refine dk 3 (v := .map (some M)) h554 rfl rfl ⟨hB542, hk546, hk550, hk551⟩ (fun x hx => (rn_load1 rfl rfl Try.isAgg44 (hx.2.1.cell rfl))) fun a555 h555 => ?_; clear h554
         refine dk0 4 (v := pt N246 0) h555 rfl rfl ⟨hB542, hk546, hk550, hk551⟩ fun a556 h556 => ?_; clear h555
         refine dk 5 (v := .int .i64 y241.1) h556 rfl rfl ⟨hB542, hk546, hk550, hk551⟩ (fun x hx => (rn_load1 rfl rfl Try.isAgg3 (hx.2.2.1.cell rfl))) fun a557 h557 => ?_; clear h556
         refine dk 6 (v := .agg #[f486.1, .int .i64 (f486.2.2.1 + kp262), .bool true]) h557 rfl rfl ⟨hB542, hk546, hk550, hk551⟩ (fun x hx => (rn_loadN rfl rfl Try.underlying122 rfl (by kernel_rfl) hx.2.2.2.all)) fun a558 h558 => ?_; clear h557
         have hM564 := hM496.kept hg502 (by simp; omega)
         have hM565 := hM564.kept hg513 (by simp; omega)
         have hM566 := hM565.kept hg520 (by simp; omega)
         have hM567 := hM566.kept hg523 (by simp)
         refine d1D 7 h558 rfl rfl (op_updateO (a := y241.1) (v := (f486.1, f486.2.1, f486.2.2.1 + kp262, true)) (intKL Try.underlying3) rfl rfl rfl rfl Try.underlying44 hM567) ?_ ?_; clear h558
         ·
          rintro _ w560 ⟨hm561, hz562, hg563⟩
          have hF569 := hF490.blk hk477 (by decide) hg502
          have hF570 := hF569.blk hk500' (by decide) hg513
          have hF571 := hF570.blk hk511' (by decide) hg520
          have hF572 := hF571.new hg523
          have hr573 := row_kept_at hA488.1 hg502 (own_neT hA488.1 hk477 (by decide))
          have hr574 := row_kept_at hr573 hg513 (own_neT hr573 hk500' (by decide))
          have hr575 := row_kept_at hr574 hg520 (own_neT hr574 hk511' (by decide))
          have hr576 := row_kept_new hr575 hg523
          have hF568 := Fam.put (u := (f486.1)) (l := f486.2.1) (sf := (f486.2.2.1 + kp262)) (b0 := true) hF572 hf487 hr576 rfl
          have hz577 := hg563.size
          have hl578 := hm561.lt
          have hB579 := fbU_at hB542 hg563 (fun hlt => by rcases hO.sM with hq | hq; exact hq; omega)
          have hk580 := hk546.kept hg563 (by simp; omega)
          have hk581 := hk550.kept hg563 (by simp; omega)
          have hk582 := hk551.kept hg563 (by simp; omega)
          exact ⟨hB579, hk580, hk581, hk582⟩
         rintro _ w560 a559 ⟨hm561, hz562, hg563⟩ h559
         have hF569 := hF490.blk hk477 (by decide) hg502
         have hF570 := hF569.blk hk500' (by decide) hg513
         have hF571 := hF570.blk hk511' (by decide) hg520
         have hF572 := hF571.new hg523
         have hr573 := row_kept_at hA488.1 hg502 (own_neT hA488.1 hk477 (by decide))
         have hr574 := row_kept_at hr573 hg513 (own_neT hr573 hk500' (by decide))
         have hr575 := row_kept_at hr574 hg520 (own_neT hr574 hk511' (by decide))
         have hr576 := row_kept_new hr575 hg523
         have hF568 := Fam.put (u := (f486.1)) (l := f486.2.1) (sf := (f486.2.2.1 + kp262)) (b0 := true) hF572 hf487 hr576 rfl
         have hz577 := hg563.size
         have hl578 := hm561.lt
         refine dr_done (by kernel_rfl) ?_
         refine co_then ?_
         refine co_reg ?_
         refine pk0 (v := .bool true) h559 rfl fun a579 h579 => ?_; clear h559
         refine pk0 (v := .bool true) h579 rfl fun a580 h580 => ?_; clear h579
         refine pk0 (v := .int .i64 kp262) h580 rfl fun a581 h581 => ?_; clear h580
         refine pk0 (v := pt N246 1) h581 rfl fun a582 h582 => ?_; clear h581
         have hk583 := hk550.kept hg563 (by simp; omega)
         refine pk (v := .int .i64 y241.2) h582 rfl (rn_load1 rfl rfl Try.isAgg3 (hk583.cell rfl)) fun a584 h584 => ?_; clear h582
         refine pk0 (v := .bool (kp262 == y241.2)) h584 rfl fun a585 h585 => ?_; clear h584
         refine pk0 (v := .bool (kp262 == y241.2)) h585 rfl fun a586 h586 => ?_; clear h585
         refine pk0 (v := .bool (kp262 == y241.2)) h586 rfl fun a587 h587 => ?_; clear h586
         refine pl_nil ?_
         refine co_blockN ?_
         refine co_then ?_
         refine co_reg ?_
         refine pk (v := .int .i64 ((i + 1 : Nat) : Int)) h587 rfl (rn_arith' rfl rfl rfl rfl rfl rfl (IntWalk.i64_in _ (by omega)) (by omega)) fun a588 h588 => ?_; clear h587
         refine pk0 (v := .int .i64 ((i + 1 : Nat) : Int)) h588 rfl fun a589 h589 => ?_; clear h588
         refine pl_nil ?_
         refine co_then ?_
         refine ⟨(s.ps.length - (i + 1)), by omega, ?_⟩
         have hX' := crRun_at hX hy241
         have hrl' : ∀ k, ((fun b => if b = y241.1 then some (f486.1, f486.2.1, f486.2.2.1 + kp262, true) else g1 b) k).map (·.2) = (crStep X y241).2.2 k := by
           rw [← cr_p hkp263 (by first | exact .inl (by omega) | exact .inr ⟨by omega, by assumption⟩), ← hgf492]; exact putF_eq hrl
         have hr590 := row_kept_new hr481 hg476
         have hr591 := row_kept_at hr590 hg502 (ha480)
         have hr592 := row_kept_at hr591 hg513 (ha480)
         have hr593 := row_kept_at hr592 hg520 (ha480)
         have hr594 := row_kept_new hr593 hg523
         have hr595 := row_kept_at hr594 hg563 (hM567.row hr594)
         have hF596 := hF568.map hM567 hg563
         have hB597 := fbU_at hB542 hg563 (fun hlt => by rcases hO.sM with hq | hq; exact hq; omega)
         have hk598 := hk546.kept hg563 (by simp; omega)
         exact ⟨i + 1, (crStep X y241), (fun b => if b = y241.1 then some (f486.1, f486.2.1, f486.2.2.1 + kp262, true) else g1 b), c1 + 1, h589.sub ⟨rfl, (slot_eq rfl (congrArg (Value.int .i64) (by first | exact cr_l (by assumption) | assumption))), (slot_eq rfl (congrArg Value.bool (by first | rfl | exact cr_wf (by assumption) | exact cr_w (by assumption) (by assumption)))), rfl, rfl, rfl, trivial⟩, rfl, by omega, by omega, by first | exact hX' | rfl, by first | exact hrl' | exact hO.rel, (fun_eq hm561 (by first | rfl | (funext b; rfl)) (by omega)), hr595, hF596, hB597, hk598⟩
    ·
     rw [hc274] at h273
     have hp599 : kp262 > 0 := of_decide_eq_true hc274
     clear hc274
     refine psk h273 rfl fun a600 h600 => ?_; clear h273
     refine psk h600 rfl fun a601 h601 => ?_; clear h600
     refine psk h601 rfl fun a602 h602 => ?_; clear h601
     refine psk h602 rfl fun a603 h603 => ?_; clear h602
     refine psk h603 rfl fun a604 h604 => ?_; clear h603
     refine psk h604 rfl fun a605 h605 => ?_; clear h604
     refine pk0 (v := .bool true) h605 rfl fun a606 h606 => ?_; clear h605
     refine pl_nil ?_
     refine co_then ?_
     refine co_true h606 rfl ?_
     refine co_seq ?_
     refine dr_gen (fun x => But (S) w0 x ∧ Blk x d 47 #[.bool true, .map (some M), pv, .int .i64 s.ser, .int .i64 s.boots] ∧ Blk x N246 124 #[.int .i64 y241.1, .int .i64 y241.2]) (by kernel_rfl) (fun w607 hg608 => ?_) (fun w607 hg608 => ?_)
     ·
      have hz609 := hg608.size
      have hB610 := fbU_new hB276 hg608
      have hk611 := hk278.kept hg608 (by simp)
      have hk612 := hk255'.kept hg608 (by simp)
      exact ⟨hB610, hk611, hk612⟩
     have hz613 := hg608.size
     have hB614 := fbU_new hB276 hg608
     have hk615 := hk278.kept hg608 (by simp)
     have hk616 := hk255'.kept hg608 (by simp)
     refine dk0 0 (v := pt d 0) h606 rfl rfl ⟨hB614, hk615, hk616⟩ fun a617 h617 => ?_; clear h606
     refine dk0 1 (v := pt d 0) h617 rfl rfl ⟨hB614, hk615, hk616⟩ fun a618 h618 => ?_; clear h617
     refine dk0 2 (v := pt d 1) h618 rfl rfl ⟨hB614, hk615, hk616⟩ fun a619 h619 => ?_; clear h618
     refine dk 3 (v := .map (some M)) h619 rfl rfl ⟨hB614, hk615, hk616⟩ (fun x hx => (rn_load1 rfl rfl Try.isAgg44 (hx.2.1.cell rfl))) fun a620 h620 => ?_; clear h619
     refine dk0 4 (v := pt N246 0) h620 rfl rfl ⟨hB614, hk615, hk616⟩ fun a621 h621 => ?_; clear h620
     refine dk 5 (v := .int .i64 y241.1) h621 rfl rfl ⟨hB614, hk615, hk616⟩ (fun x hx => (rn_load1 rfl rfl Try.isAgg3 (hx.2.2.cell rfl))) fun a622 h622 => ?_; clear h621
     refine dr_many [6, 7] (by kernel_rfl) (by simp) ⟨?_, ?_, trivial⟩
     ·
      have hF626 := hF284.new hg608
      have hM631 := hM280.kept hg608 (by simp)
      obtain ⟨f623, hf624⟩ : ∃ z, (g1 y241.1).getD fz = z := ⟨_, rfl⟩
      have hA625 := hF626.at hf624
      have hl627 := sl_len (row_sl hA625.1 u8E_len)
      have hgf628 := getF_eq hrl hf624
      have hgl629 : f623.2.1.length = (getF X.2.2 y241.1).1.length := by rw [hgf628]
      have hgs630 : f623.2.2.1 = (getF X.2.2 y241.1).2.1 := by rw [hgf628]
      refine dr_opVal (i := 6) (v := .agg #[f623.1, .int .i64 f623.2.2.1, .bool f623.2.2.2]) h622 rfl rfl rfl rfl (by kernel_rfl) rfl (rn_lookO (a := y241.1) (f := f623) (intKL Try.underlying3) rfl rfl rfl Try.underlying44 filez hM631 hf624) ⟨hB614, hk615, hk616⟩ (fun a632 h632 => ?_); clear h622
      refine d1 7 h632 rfl rfl (op_new (v := fun N => pt N 0) (T := 122) (cs := #[.slice none 0 0, .int .i64 0, .bool false]) (by kernel_rfl) (by kernel_rfl) (by kernel_rfl)) ?_ ?_; clear h632
      ·
       rintro _ w634 ⟨N635, rfl, hN638, hz639, hk637, hg636⟩
       have hr641 := row_kept_new hr282 hg608
       have ha640 := row_fresh hr641 hN638
       have ha642 := row_fresh hA625.1 hN638
       have hz643 := hg636.size
       have hB644 := fbU_new hB614 hg636
       have hk645 := hk615.kept hg636 (by simp)
       have hk646 := hk616.kept hg636 (by simp)
       exact ⟨hB644, hk645, hk646⟩
      rintro _ w634 a633 ⟨N635, rfl, hN638, hz639, hk637, hg636⟩ h633
      have hr641 := row_kept_new hr282 hg608
      have ha640 := row_fresh hr641 hN638
      have ha642 := row_fresh hA625.1 hN638
      have hz643 := hg636.size
      try dsimp only at h633
      have hB644 := fbU_new hB614 hg636
      have hk645 := hk615.kept hg636 (by simp)
      have hk646 := hk616.kept hg636 (by simp)
      have hr652 := row_kept_new hA625.1 hg636
      refine d1D 8 h633 rfl rfl (op_storeN rfl rfl rfl (all_cons (row_one hr652) (all_cons rfl (all_cons rfl all_nil))) (by kernel_rfl) hk637 rfl) ?_ ?_; clear h633
      ·
       rintro _ w648 ⟨hk649, hz650, hg651⟩
       have hk649' : Blk w648 N635 122 #[f623.1, .int .i64 f623.2.2.1, .bool f623.2.2.2] := hk649; clear hk649
       have hz653 := hg651.size
       have hB654 := fbU_at hB644 hg651 (fun hlt => absurd hlt (by omega))
       have hk655 := hk645.kept hg651 (by simp; omega)
       have hk656 := hk646.kept hg651 (by simp; omega)
       exact ⟨hB654, hk655, hk656⟩
      rintro _ w648 a647 ⟨hk649, hz650, hg651⟩ h647
      have hk649' : Blk w648 N635 122 #[f623.1, .int .i64 f623.2.2.1, .bool f623.2.2.2] := hk649; clear hk649
      have hz653 := hg651.size
      refine dr_done (by kernel_rfl) ?_
      refine co_then ?_
      refine co_seq ?_
      refine co_reg ?_
      refine pk0 (v := pt N635 1) h647 rfl fun a654 h654 => ?_; clear h647
      refine pk (v := .int .i64 f623.2.2.1) h654 rfl (rn_load1 rfl rfl Try.isAgg3 (hk649'.cell rfl)) fun a655 h655 => ?_; clear h654
      refine pk0 (v := .int .i64 kp262) h655 rfl fun a656 h656 => ?_; clear h655
      refine pk (v := .int .i64 (f623.2.2.1 + kp262)) h656 rfl (rn_arith rfl rfl rfl rfl rfl rfl (IntWalk.i64_in _ (by omega))) fun a657 h657 => ?_; clear h656
      refine pk0 (v := pt N635 1) h657 rfl fun a658 h658 => ?_; clear h657
      refine pwD h658 rfl (op_store1 rfl rfl rfl rfl Try.sizeOf3 hk649' rfl) ?_; clear h658
      rintro _ w660 a659 ⟨hk661, hz662, hg663⟩ h659
      have hk661' : Blk w660 N635 122 #[f623.1, .int .i64 (f623.2.2.1 + kp262), .bool f623.2.2.2] := hk661; clear hk661
      have hz664 := hg663.size
      refine pk0 (v := pt N635 2) h659 rfl fun a665 h665 => ?_; clear h659
      refine pwD h665 rfl (op_store1 rfl rfl rfl rfl Try.sizeOf4 hk661' rfl) ?_; clear h665
      rintro _ w667 a666 ⟨hk668, hz669, hg670⟩ h666
      have hk668' : Blk w667 N635 122 #[f623.1, .int .i64 (f623.2.2.1 + kp262), .bool true] := hk668; clear hk668
      have hz671 := hg670.size
      refine pl_nil ?_
      refine co_then ?_
      refine dr_gen (fun x => But (S) w0 x ∧ Blk x d 47 #[.bool true, .map (some M), pv, .int .i64 s.ser, .int .i64 s.boots] ∧ Blk x N246 124 #[.int .i64 y241.1, .int .i64 y241.2] ∧ Blk x N635 122 #[f623.1, .int .i64 (f623.2.2.1 + kp262), .bool true]) (by kernel_rfl) (fun w672 hg673 => ?_) (fun w672 hg673 => ?_)
      ·
       have hz674 := hg673.size
       have hB675 := fbU_at hB644 hg651 (fun hlt => absurd hlt (by omega))
       have hB676 := fbU_at hB675 hg663 (fun hlt => absurd hlt (by omega))
       have hB677 := fbU_at hB676 hg670 (fun hlt => absurd hlt (by omega))
       have hB678 := fbU_new hB677 hg673
       have hk679 := hk645.kept hg651 (by simp; omega)
       have hk680 := hk679.kept hg663 (by simp; omega)
       have hk681 := hk680.kept hg670 (by simp; omega)
       have hk682 := hk681.kept hg673 (by simp)
       have hk683 := hk646.kept hg651 (by simp; omega)
       have hk684 := hk683.kept hg663 (by simp; omega)
       have hk685 := hk684.kept hg670 (by simp; omega)
       have hk686 := hk685.kept hg673 (by simp)
       have hk687 := hk668'.kept hg673 (by simp)
       exact ⟨hB678, hk682, hk686, hk687⟩
      have hz688 := hg673.size
      have hB689 := fbU_at hB644 hg651 (fun hlt => absurd hlt (by omega))
      have hB690 := fbU_at hB689 hg663 (fun hlt => absurd hlt (by omega))
      have hB691 := fbU_at hB690 hg670 (fun hlt => absurd hlt (by omega))
      have hB692 := fbU_new hB691 hg673
      have hk693 := hk645.kept hg651 (by simp; omega)
      have hk694 := hk693.kept hg663 (by simp; omega)
      have hk695 := hk694.kept hg670 (by simp; omega)
      have hk696 := hk695.kept hg673 (by simp)
      have hk697 := hk646.kept hg651 (by simp; omega)
      have hk698 := hk697.kept hg663 (by simp; omega)
      have hk699 := hk698.kept hg670 (by simp; omega)
      have hk700 := hk699.kept hg673 (by simp)
      have hk701 := hk668'.kept hg673 (by simp)
      refine dk0 0 (v := pt d 0) h666 rfl rfl ⟨hB692, hk696, hk700, hk701⟩ fun a702 h702 => ?_; clear h666
      refine dk0 1 (v := pt d 0) h702 rfl rfl ⟨hB692, hk696, hk700, hk701⟩ fun a703 h703 => ?_; clear h702
      refine dk0 2 (v := pt d 1) h703 rfl rfl ⟨hB692, hk696, hk700, hk701⟩ fun a704 h704 => ?_; clear h703
      refine dk 3 (v := .map (some M)) h704 rfl rfl ⟨hB692, hk696, hk700, hk701⟩ (fun x hx => (rn_load1 rfl rfl Try.isAgg44 (hx.2.1.cell rfl))) fun a705 h705 => ?_; clear h704
      refine dk0 4 (v := pt N246 0) h705 rfl rfl ⟨hB692, hk696, hk700, hk701⟩ fun a706 h706 => ?_; clear h705
      refine dk 5 (v := .int .i64 y241.1) h706 rfl rfl ⟨hB692, hk696, hk700, hk701⟩ (fun x hx => (rn_load1 rfl rfl Try.isAgg3 (hx.2.2.1.cell rfl))) fun a707 h707 => ?_; clear h706
      refine dk 6 (v := .agg #[f623.1, .int .i64 (f623.2.2.1 + kp262), .bool true]) h707 rfl rfl ⟨hB692, hk696, hk700, hk701⟩ (fun x hx => (rn_loadN rfl rfl Try.underlying122 rfl (by kernel_rfl) hx.2.2.2.all)) fun a708 h708 => ?_; clear h707
      have hM714 := hM631.kept hg636 (by simp)
      have hM715 := hM714.kept hg651 (by simp; omega)
      have hM716 := hM715.kept hg663 (by simp; omega)
      have hM717 := hM716.kept hg670 (by simp; omega)
      have hM718 := hM717.kept hg673 (by simp)
      refine d1D 7 h708 rfl rfl (op_updateO (a := y241.1) (v := (f623.1, f623.2.1, f623.2.2.1 + kp262, true)) (intKL Try.underlying3) rfl rfl rfl rfl Try.underlying44 hM718) ?_ ?_; clear h708
      ·
       rintro _ w710 ⟨hm711, hz712, hg713⟩
       have hF720 := hF626.new hg636
       have hF721 := hF720.blk hk637 (by decide) hg651
       have hF722 := hF721.blk hk649' (by decide) hg663
       have hF723 := hF722.blk hk661' (by decide) hg670
       have hF724 := hF723.new hg673
       have hr725 := row_kept_at hr652 hg651 (ha642)
       have hr726 := row_kept_at hr725 hg663 (ha642)
       have hr727 := row_kept_at hr726 hg670 (ha642)
       have hr728 := row_kept_new hr727 hg673
       have hF719 := Fam.put (u := (f623.1)) (l := f623.2.1) (sf := (f623.2.2.1 + kp262)) (b0 := true) hF724 hf624 hr728 rfl
       have hz729 := hg713.size
       have hl730 := hm711.lt
       have hB731 := fbU_at hB692 hg713 (fun hlt => by rcases hO.sM with hq | hq; exact hq; omega)
       have hk732 := hk696.kept hg713 (by simp; omega)
       have hk733 := hk700.kept hg713 (by simp; omega)
       have hk734 := hk701.kept hg713 (by simp; omega)
       exact ⟨hB731, hk732, hk733, hk734⟩
      rintro _ w710 a709 ⟨hm711, hz712, hg713⟩ h709
      have hF720 := hF626.new hg636
      have hF721 := hF720.blk hk637 (by decide) hg651
      have hF722 := hF721.blk hk649' (by decide) hg663
      have hF723 := hF722.blk hk661' (by decide) hg670
      have hF724 := hF723.new hg673
      have hr725 := row_kept_at hr652 hg651 (ha642)
      have hr726 := row_kept_at hr725 hg663 (ha642)
      have hr727 := row_kept_at hr726 hg670 (ha642)
      have hr728 := row_kept_new hr727 hg673
      have hF719 := Fam.put (u := (f623.1)) (l := f623.2.1) (sf := (f623.2.2.1 + kp262)) (b0 := true) hF724 hf624 hr728 rfl
      have hz729 := hg713.size
      have hl730 := hm711.lt
      refine dr_done (by kernel_rfl) ?_
      refine co_then ?_
      refine co_reg ?_
      refine pk0 (v := .bool X.2.1) h709 rfl fun a731 h731 => ?_; clear h709
      refine pk0 (v := .bool X.2.1) h731 rfl fun a732 h732 => ?_; clear h731
      have hB734 := fbU_at hB692 hg713 (fun hlt => by rcases hO.sM with hq | hq; exact hq; omega)
      have hr735 := row_kept_new hr641 hg636
      have hr736 := row_kept_at hr735 hg651 (ha640)
      have hr737 := row_kept_at hr736 hg663 (ha640)
      have hr738 := row_kept_at hr737 hg670 (ha640)
      have hr739 := row_kept_new hr738 hg673
      have hr740 := row_kept_at hr739 hg713 (hM718.row hr739)
      cases hc733 : (X.2.1)
      ·
       rw [hc733] at h732
       refine psk h732 rfl fun a741 h741 => ?_; clear h732
       refine psk h741 rfl fun a742 h742 => ?_; clear h741
       refine psk h742 rfl fun a743 h743 => ?_; clear h742
       refine psk h743 rfl fun a744 h744 => ?_; clear h743
       refine pk0 (v := .bool false) h744 rfl fun a745 h745 => ?_; clear h744
       refine pk0 (v := .bool false) h745 rfl fun a746 h746 => ?_; clear h745
       refine pl_nil ?_
       refine co_blockN ?_
       refine co_then ?_
       refine co_reg ?_
       refine pk (v := .int .i64 ((i + 1 : Nat) : Int)) h746 rfl (rn_arith' rfl rfl rfl rfl rfl rfl (IntWalk.i64_in _ (by omega)) (by omega)) fun a747 h747 => ?_; clear h746
       refine pk0 (v := .int .i64 ((i + 1 : Nat) : Int)) h747 rfl fun a748 h748 => ?_; clear h747
       refine pl_nil ?_
       refine co_then ?_
       refine ⟨(s.ps.length - (i + 1)), by omega, ?_⟩
       have hX' := crRun_at hX hy241
       have hrl' : ∀ k, ((fun b => if b = y241.1 then some (f623.1, f623.2.1, f623.2.2.1 + kp262, true) else g1 b) k).map (·.2) = (crStep X y241).2.2 k := by
         rw [← cr_p hkp263 (by first | exact .inl (by omega) | exact .inr ⟨by omega, by assumption⟩), ← hgf628]; exact putF_eq hrl
       have hF749 := hF719.map hM718 hg713
       have hk750 := hk696.kept hg713 (by simp; omega)
       exact ⟨i + 1, (crStep X y241), (fun b => if b = y241.1 then some (f623.1, f623.2.1, f623.2.2.1 + kp262, true) else g1 b), c1 + 1, h748.sub ⟨rfl, (slot_eq rfl (congrArg (Value.int .i64) (by first | exact cr_l (by assumption) | assumption))), (slot_eq rfl (congrArg Value.bool (by first | rfl | exact cr_wf (by assumption) | exact cr_w (by assumption) (by assumption)))), rfl, rfl, rfl, trivial⟩, rfl, by omega, by omega, by first | exact hX' | rfl, by first | exact hrl' | exact hO.rel, (fun_eq hm711 (by first | rfl | (funext b; rfl)) (by omega)), hr740, hF749, hB734, hk750⟩
      ·
       rw [hc733] at h732
       refine pk0 (v := .int .i64 kp262) h732 rfl fun a751 h751 => ?_; clear h732
       refine pk0 (v := pt N246 1) h751 rfl fun a752 h752 => ?_; clear h751
       have hk753 := hk700.kept hg713 (by simp; omega)
       refine pk (v := .int .i64 y241.2) h752 rfl (rn_load1 rfl rfl Try.isAgg3 (hk753.cell rfl)) fun a754 h754 => ?_; clear h752
       refine pk0 (v := .bool (kp262 == y241.2)) h754 rfl fun a755 h755 => ?_; clear h754
       refine pk0 (v := .bool (kp262 == y241.2)) h755 rfl fun a756 h756 => ?_; clear h755
       refine pk0 (v := .bool (kp262 == y241.2)) h756 rfl fun a757 h757 => ?_; clear h756
       refine pl_nil ?_
       refine co_blockN ?_
       refine co_then ?_
       refine co_reg ?_
       refine pk (v := .int .i64 ((i + 1 : Nat) : Int)) h757 rfl (rn_arith' rfl rfl rfl rfl rfl rfl (IntWalk.i64_in _ (by omega)) (by omega)) fun a758 h758 => ?_; clear h757
       refine pk0 (v := .int .i64 ((i + 1 : Nat) : Int)) h758 rfl fun a759 h759 => ?_; clear h758
       refine pl_nil ?_
       refine co_then ?_
       refine ⟨(s.ps.length - (i + 1)), by omega, ?_⟩
       have hX' := crRun_at hX hy241
       have hrl' : ∀ k, ((fun b => if b = y241.1 then some (f623.1, f623.2.1, f623.2.2.1 + kp262, true) else g1 b) k).map (·.2) = (crStep X y241).2.2 k := by
         rw [← cr_p hkp263 (by first | exact .inl (by omega) | exact .inr ⟨by omega, by assumption⟩), ← hgf628]; exact putF_eq hrl
       have hF760 := hF719.map hM718 hg713
       have hk761 := hk696.kept hg713 (by simp; omega)
       exact ⟨i + 1, (crStep X y241), (fun b => if b = y241.1 then some (f623.1, f623.2.1, f623.2.2.1 + kp262, true) else g1 b), c1 + 1, h759.sub ⟨rfl, (slot_eq rfl (congrArg (Value.int .i64) (by first | exact cr_l (by assumption) | assumption))), (slot_eq rfl (congrArg Value.bool (by first | rfl | exact cr_wf (by assumption) | exact cr_w (by assumption) (by assumption)))), rfl, rfl, rfl, trivial⟩, rfl, by omega, by omega, by first | exact hX' | rfl, by first | exact hrl' | exact hO.rel, (fun_eq hm711 (by first | rfl | (funext b; rfl)) (by omega)), hr740, hF760, hB734, hk761⟩
     ·
      refine dr_op (i := 7) h622 rfl rfl rfl rfl (op_new (v := fun N => pt N 0) (T := 122) (cs := #[.slice none 0 0, .int .i64 0, .bool false]) (by kernel_rfl) (by kernel_rfl) (by kernel_rfl)) ?_ ?_; clear h622
      ·
       rintro _ w763 ⟨N764, rfl, hN767, hz768, hk766, hg765⟩
       have hr770 := row_kept_new hr282 hg608
       have ha769 := row_fresh hr770 hN767
       have hz771 := hg765.size
       have hB772 := fbU_new hB614 hg765
       have hk773 := hk615.kept hg765 (by simp)
       have hk774 := hk616.kept hg765 (by simp)
       exact ⟨hB772, hk773, hk774⟩
      rintro _ w763 a762 ⟨N764, rfl, hN767, hz768, hk766, hg765⟩ h762
      have hr770 := row_kept_new hr282 hg608
      have ha769 := row_fresh hr770 hN767
      have hz771 := hg765.size
      try dsimp only at h762
      have hB772 := fbU_new hB614 hg765
      have hk773 := hk615.kept hg765 (by simp)
      have hk774 := hk616.kept hg765 (by simp)
      refine dr_many [6] (by kernel_rfl) (by simp) ⟨?_, trivial⟩
      ·
       have hF778 := hF284.new hg608
       have hF779 := hF778.new hg765
       have hM784 := hM280.kept hg608 (by simp)
       have hM785 := hM784.kept hg765 (by simp)
       obtain ⟨f775, hf776⟩ : ∃ z, (g1 y241.1).getD fz = z := ⟨_, rfl⟩
       have hA777 := hF779.at hf776
       have hl780 := sl_len (row_sl hA777.1 u8E_len)
       have hgf781 := getF_eq hrl hf776
       have hgl782 : f775.2.1.length = (getF X.2.2 y241.1).1.length := by rw [hgf781]
       have hgs783 : f775.2.2.1 = (getF X.2.2 y241.1).2.1 := by rw [hgf781]
       refine dr_opVal (i := 6) (v := .agg #[f775.1, .int .i64 f775.2.2.1, .bool f775.2.2.2]) h762 rfl rfl rfl rfl (by kernel_rfl) rfl (rn_lookO (a := y241.1) (f := f775) (intKL Try.underlying3) rfl rfl rfl Try.underlying44 filez hM785 hf776) ⟨hB772, hk773, hk774⟩ (fun a786 h786 => ?_); clear h762
       refine d1D 8 h786 rfl rfl (op_storeN rfl rfl rfl (all_cons (row_one hA777.1) (all_cons rfl (all_cons rfl all_nil))) (by kernel_rfl) hk766 rfl) ?_ ?_; clear h786
       ·
        rintro _ w788 ⟨hk789, hz790, hg791⟩
        have hk789' : Blk w788 N764 122 #[f775.1, .int .i64 f775.2.2.1, .bool f775.2.2.2] := hk789; clear hk789
        have hz792 := hg791.size
        have hB793 := fbU_at hB772 hg791 (fun hlt => absurd hlt (by omega))
        have hk794 := hk773.kept hg791 (by simp; omega)
        have hk795 := hk774.kept hg791 (by simp; omega)
        exact ⟨hB793, hk794, hk795⟩
       rintro _ w788 a787 ⟨hk789, hz790, hg791⟩ h787
       have hk789' : Blk w788 N764 122 #[f775.1, .int .i64 f775.2.2.1, .bool f775.2.2.2] := hk789; clear hk789
       have hz792 := hg791.size
       refine dr_done (by kernel_rfl) ?_
       refine co_then ?_
       refine co_seq ?_
       refine co_reg ?_
       refine pk0 (v := pt N764 1) h787 rfl fun a793 h793 => ?_; clear h787
       refine pk (v := .int .i64 f775.2.2.1) h793 rfl (rn_load1 rfl rfl Try.isAgg3 (hk789'.cell rfl)) fun a794 h794 => ?_; clear h793
       refine pk0 (v := .int .i64 kp262) h794 rfl fun a795 h795 => ?_; clear h794
       refine pk (v := .int .i64 (f775.2.2.1 + kp262)) h795 rfl (rn_arith rfl rfl rfl rfl rfl rfl (IntWalk.i64_in _ (by omega))) fun a796 h796 => ?_; clear h795
       refine pk0 (v := pt N764 1) h796 rfl fun a797 h797 => ?_; clear h796
       refine pwD h797 rfl (op_store1 rfl rfl rfl rfl Try.sizeOf3 hk789' rfl) ?_; clear h797
       rintro _ w799 a798 ⟨hk800, hz801, hg802⟩ h798
       have hk800' : Blk w799 N764 122 #[f775.1, .int .i64 (f775.2.2.1 + kp262), .bool f775.2.2.2] := hk800; clear hk800
       have hz803 := hg802.size
       refine pk0 (v := pt N764 2) h798 rfl fun a804 h804 => ?_; clear h798
       refine pwD h804 rfl (op_store1 rfl rfl rfl rfl Try.sizeOf4 hk800' rfl) ?_; clear h804
       rintro _ w806 a805 ⟨hk807, hz808, hg809⟩ h805
       have hk807' : Blk w806 N764 122 #[f775.1, .int .i64 (f775.2.2.1 + kp262), .bool true] := hk807; clear hk807
       have hz810 := hg809.size
       refine pl_nil ?_
       refine co_then ?_
       refine dr_gen (fun x => But (S) w0 x ∧ Blk x d 47 #[.bool true, .map (some M), pv, .int .i64 s.ser, .int .i64 s.boots] ∧ Blk x N246 124 #[.int .i64 y241.1, .int .i64 y241.2] ∧ Blk x N764 122 #[f775.1, .int .i64 (f775.2.2.1 + kp262), .bool true]) (by kernel_rfl) (fun w811 hg812 => ?_) (fun w811 hg812 => ?_)
       ·
        have hz813 := hg812.size
        have hB814 := fbU_at hB772 hg791 (fun hlt => absurd hlt (by omega))
        have hB815 := fbU_at hB814 hg802 (fun hlt => absurd hlt (by omega))
        have hB816 := fbU_at hB815 hg809 (fun hlt => absurd hlt (by omega))
        have hB817 := fbU_new hB816 hg812
        have hk818 := hk773.kept hg791 (by simp; omega)
        have hk819 := hk818.kept hg802 (by simp; omega)
        have hk820 := hk819.kept hg809 (by simp; omega)
        have hk821 := hk820.kept hg812 (by simp)
        have hk822 := hk774.kept hg791 (by simp; omega)
        have hk823 := hk822.kept hg802 (by simp; omega)
        have hk824 := hk823.kept hg809 (by simp; omega)
        have hk825 := hk824.kept hg812 (by simp)
        have hk826 := hk807'.kept hg812 (by simp)
        exact ⟨hB817, hk821, hk825, hk826⟩
       have hz827 := hg812.size
       have hB828 := fbU_at hB772 hg791 (fun hlt => absurd hlt (by omega))
       have hB829 := fbU_at hB828 hg802 (fun hlt => absurd hlt (by omega))
       have hB830 := fbU_at hB829 hg809 (fun hlt => absurd hlt (by omega))
       have hB831 := fbU_new hB830 hg812
       have hk832 := hk773.kept hg791 (by simp; omega)
       have hk833 := hk832.kept hg802 (by simp; omega)
       have hk834 := hk833.kept hg809 (by simp; omega)
       have hk835 := hk834.kept hg812 (by simp)
       have hk836 := hk774.kept hg791 (by simp; omega)
       have hk837 := hk836.kept hg802 (by simp; omega)
       have hk838 := hk837.kept hg809 (by simp; omega)
       have hk839 := hk838.kept hg812 (by simp)
       have hk840 := hk807'.kept hg812 (by simp)
       refine dk0 0 (v := pt d 0) h805 rfl rfl ⟨hB831, hk835, hk839, hk840⟩ fun a841 h841 => ?_; clear h805
       refine dk0 1 (v := pt d 0) h841 rfl rfl ⟨hB831, hk835, hk839, hk840⟩ fun a842 h842 => ?_; clear h841
       refine dk0 2 (v := pt d 1) h842 rfl rfl ⟨hB831, hk835, hk839, hk840⟩ fun a843 h843 => ?_; clear h842
       refine dk 3 (v := .map (some M)) h843 rfl rfl ⟨hB831, hk835, hk839, hk840⟩ (fun x hx => (rn_load1 rfl rfl Try.isAgg44 (hx.2.1.cell rfl))) fun a844 h844 => ?_; clear h843
       refine dk0 4 (v := pt N246 0) h844 rfl rfl ⟨hB831, hk835, hk839, hk840⟩ fun a845 h845 => ?_; clear h844
       refine dk 5 (v := .int .i64 y241.1) h845 rfl rfl ⟨hB831, hk835, hk839, hk840⟩ (fun x hx => (rn_load1 rfl rfl Try.isAgg3 (hx.2.2.1.cell rfl))) fun a846 h846 => ?_; clear h845
       refine dk 6 (v := .agg #[f775.1, .int .i64 (f775.2.2.1 + kp262), .bool true]) h846 rfl rfl ⟨hB831, hk835, hk839, hk840⟩ (fun x hx => (rn_loadN rfl rfl Try.underlying122 rfl (by kernel_rfl) hx.2.2.2.all)) fun a847 h847 => ?_; clear h846
       have hM853 := hM785.kept hg791 (by simp; omega)
       have hM854 := hM853.kept hg802 (by simp; omega)
       have hM855 := hM854.kept hg809 (by simp; omega)
       have hM856 := hM855.kept hg812 (by simp)
       refine d1D 7 h847 rfl rfl (op_updateO (a := y241.1) (v := (f775.1, f775.2.1, f775.2.2.1 + kp262, true)) (intKL Try.underlying3) rfl rfl rfl rfl Try.underlying44 hM856) ?_ ?_; clear h847
       ·
        rintro _ w849 ⟨hm850, hz851, hg852⟩
        have hF858 := hF779.blk hk766 (by decide) hg791
        have hF859 := hF858.blk hk789' (by decide) hg802
        have hF860 := hF859.blk hk800' (by decide) hg809
        have hF861 := hF860.new hg812
        have hr862 := row_kept_at hA777.1 hg791 (own_neT hA777.1 hk766 (by decide))
        have hr863 := row_kept_at hr862 hg802 (own_neT hr862 hk789' (by decide))
        have hr864 := row_kept_at hr863 hg809 (own_neT hr863 hk800' (by decide))
        have hr865 := row_kept_new hr864 hg812
        have hF857 := Fam.put (u := (f775.1)) (l := f775.2.1) (sf := (f775.2.2.1 + kp262)) (b0 := true) hF861 hf776 hr865 rfl
        have hz866 := hg852.size
        have hl867 := hm850.lt
        have hB868 := fbU_at hB831 hg852 (fun hlt => by rcases hO.sM with hq | hq; exact hq; omega)
        have hk869 := hk835.kept hg852 (by simp; omega)
        have hk870 := hk839.kept hg852 (by simp; omega)
        have hk871 := hk840.kept hg852 (by simp; omega)
        exact ⟨hB868, hk869, hk870, hk871⟩
       rintro _ w849 a848 ⟨hm850, hz851, hg852⟩ h848
       have hF858 := hF779.blk hk766 (by decide) hg791
       have hF859 := hF858.blk hk789' (by decide) hg802
       have hF860 := hF859.blk hk800' (by decide) hg809
       have hF861 := hF860.new hg812
       have hr862 := row_kept_at hA777.1 hg791 (own_neT hA777.1 hk766 (by decide))
       have hr863 := row_kept_at hr862 hg802 (own_neT hr862 hk789' (by decide))
       have hr864 := row_kept_at hr863 hg809 (own_neT hr863 hk800' (by decide))
       have hr865 := row_kept_new hr864 hg812
       have hF857 := Fam.put (u := (f775.1)) (l := f775.2.1) (sf := (f775.2.2.1 + kp262)) (b0 := true) hF861 hf776 hr865 rfl
       have hz866 := hg852.size
       have hl867 := hm850.lt
       refine dr_done (by kernel_rfl) ?_
       refine co_then ?_
       refine co_reg ?_
       refine pk0 (v := .bool X.2.1) h848 rfl fun a868 h868 => ?_; clear h848
       refine pk0 (v := .bool X.2.1) h868 rfl fun a869 h869 => ?_; clear h868
       have hB871 := fbU_at hB831 hg852 (fun hlt => by rcases hO.sM with hq | hq; exact hq; omega)
       have hr872 := row_kept_new hr770 hg765
       have hr873 := row_kept_at hr872 hg791 (ha769)
       have hr874 := row_kept_at hr873 hg802 (ha769)
       have hr875 := row_kept_at hr874 hg809 (ha769)
       have hr876 := row_kept_new hr875 hg812
       have hr877 := row_kept_at hr876 hg852 (hM856.row hr876)
       cases hc870 : (X.2.1)
       ·
        rw [hc870] at h869
        refine psk h869 rfl fun a878 h878 => ?_; clear h869
        refine psk h878 rfl fun a879 h879 => ?_; clear h878
        refine psk h879 rfl fun a880 h880 => ?_; clear h879
        refine psk h880 rfl fun a881 h881 => ?_; clear h880
        refine pk0 (v := .bool false) h881 rfl fun a882 h882 => ?_; clear h881
        refine pk0 (v := .bool false) h882 rfl fun a883 h883 => ?_; clear h882
        refine pl_nil ?_
        refine co_blockN ?_
        refine co_then ?_
        refine co_reg ?_
        refine pk (v := .int .i64 ((i + 1 : Nat) : Int)) h883 rfl (rn_arith' rfl rfl rfl rfl rfl rfl (IntWalk.i64_in _ (by omega)) (by omega)) fun a884 h884 => ?_; clear h883
        refine pk0 (v := .int .i64 ((i + 1 : Nat) : Int)) h884 rfl fun a885 h885 => ?_; clear h884
        refine pl_nil ?_
        refine co_then ?_
        refine ⟨(s.ps.length - (i + 1)), by omega, ?_⟩
        have hX' := crRun_at hX hy241
        have hrl' : ∀ k, ((fun b => if b = y241.1 then some (f775.1, f775.2.1, f775.2.2.1 + kp262, true) else g1 b) k).map (·.2) = (crStep X y241).2.2 k := by
          rw [← cr_p hkp263 (by first | exact .inl (by omega) | exact .inr ⟨by omega, by assumption⟩), ← hgf781]; exact putF_eq hrl
        have hF886 := hF857.map hM856 hg852
        have hk887 := hk835.kept hg852 (by simp; omega)
        exact ⟨i + 1, (crStep X y241), (fun b => if b = y241.1 then some (f775.1, f775.2.1, f775.2.2.1 + kp262, true) else g1 b), c1 + 1, h885.sub ⟨rfl, (slot_eq rfl (congrArg (Value.int .i64) (by first | exact cr_l (by assumption) | assumption))), (slot_eq rfl (congrArg Value.bool (by first | rfl | exact cr_wf (by assumption) | exact cr_w (by assumption) (by assumption)))), rfl, rfl, rfl, trivial⟩, rfl, by omega, by omega, by first | exact hX' | rfl, by first | exact hrl' | exact hO.rel, (fun_eq hm850 (by first | rfl | (funext b; rfl)) (by omega)), hr877, hF886, hB871, hk887⟩
       ·
        rw [hc870] at h869
        refine pk0 (v := .int .i64 kp262) h869 rfl fun a888 h888 => ?_; clear h869
        refine pk0 (v := pt N246 1) h888 rfl fun a889 h889 => ?_; clear h888
        have hk890 := hk839.kept hg852 (by simp; omega)
        refine pk (v := .int .i64 y241.2) h889 rfl (rn_load1 rfl rfl Try.isAgg3 (hk890.cell rfl)) fun a891 h891 => ?_; clear h889
        refine pk0 (v := .bool (kp262 == y241.2)) h891 rfl fun a892 h892 => ?_; clear h891
        refine pk0 (v := .bool (kp262 == y241.2)) h892 rfl fun a893 h893 => ?_; clear h892
        refine pk0 (v := .bool (kp262 == y241.2)) h893 rfl fun a894 h894 => ?_; clear h893
        refine pl_nil ?_
        refine co_blockN ?_
        refine co_then ?_
        refine co_reg ?_
        refine pk (v := .int .i64 ((i + 1 : Nat) : Int)) h894 rfl (rn_arith' rfl rfl rfl rfl rfl rfl (IntWalk.i64_in _ (by omega)) (by omega)) fun a895 h895 => ?_; clear h894
        refine pk0 (v := .int .i64 ((i + 1 : Nat) : Int)) h895 rfl fun a896 h896 => ?_; clear h895
        refine pl_nil ?_
        refine co_then ?_
        refine ⟨(s.ps.length - (i + 1)), by omega, ?_⟩
        have hX' := crRun_at hX hy241
        have hrl' : ∀ k, ((fun b => if b = y241.1 then some (f775.1, f775.2.1, f775.2.2.1 + kp262, true) else g1 b) k).map (·.2) = (crStep X y241).2.2 k := by
          rw [← cr_p hkp263 (by first | exact .inl (by omega) | exact .inr ⟨by omega, by assumption⟩), ← hgf781]; exact putF_eq hrl
        have hF897 := hF857.map hM856 hg852
        have hk898 := hk835.kept hg852 (by simp; omega)
        exact ⟨i + 1, (crStep X y241), (fun b => if b = y241.1 then some (f775.1, f775.2.1, f775.2.2.1 + kp262, true) else g1 b), c1 + 1, h896.sub ⟨rfl, (slot_eq rfl (congrArg (Value.int .i64) (by first | exact cr_l (by assumption) | assumption))), (slot_eq rfl (congrArg Value.bool (by first | rfl | exact cr_wf (by assumption) | exact cr_w (by assumption) (by assumption)))), rfl, rfl, rfl, trivial⟩, rfl, by omega, by omega, by first | exact hX' | rfl, by first | exact hrl' | exact hO.rel, (fun_eq hm850 (by first | rfl | (funext b; rfl)) (by omega)), hr877, hF897, hB871, hk898⟩
end Go.Proofs.Ytcnahhobppnbbaa
