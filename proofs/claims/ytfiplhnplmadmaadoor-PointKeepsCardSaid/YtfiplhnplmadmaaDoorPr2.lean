/- Put together: DiskCPq, DiskDPq, DiskEPq, CrcPq, SumAPq, TabPq, VnAPq, VnBPq, VnDPq, VnFPq, FrameAPq, StrOpsPq, FrameBPq, CrcBPq, FrameDPq, BytesPq, FrameGPq, FrameLPq, FrameHPq, StrsPq, FrameIPq. Conditions: as each says. -/
import Derived.Test.YtfiplhnplmadmaaDoorPr1
import Derived.Test.YtfiplhnplmadmaaDoorRows
import Derived.Laws.Concat
import Derived.Deep.RegionHeld3
import Derived.Laws.BytesArg
import Derived.Deep.OwnRows
import Derived.RangeFuncNested
import Derived.RangeFuncBound
import Derived.RangeFuncCalls
import Derived.RangeFuncLeaves
import Derived.RangeFuncBox
import Derived.Shelf.Abstract
import Derived.Shelf.RegionOpen
import Derived.WalkKit
import Derived.OwnWalkIn
import Derived.TacticsInMore
import Derived.LoopNIn
import Derived.LoopIn
import Derived.SliceStrings
import Derived.SizedLaws
import Derived.Maps.AppendAt
import Derived.ScopeJumps
import Derived.BigQuiet
/- Package disk: Files, Crash. Conditions: at most 10^6 entries. -/
namespace Go.Proofs.YtfiplhnplmadmaaDoor
open Go.RowKit Go.PlainAid
set_option linter.unusedVariables false


theorem row_nnD {w : World} {B : Nat} {T : TypeId} {sz : Nat} {v : Value} {k : Nat} {xs : List Value} (h : w.ownsRow B T sz v k xs) (hk : 0 < k) : v ≠ .slice none 0 0 := by
  rintro rfl
  rcases h.2 with ⟨_, h1⟩ | ⟨g, cap, cur, h1, _⟩
  · have h0 := h.1; omega
  · simp at h1
def crStep (X : Int × Bool × (Int → Option FileM)) (p : PcT) : Int × Bool × (Int → Option FileM) :=
  (X.1 - (if X.1 < p.2 then X.1 else p.2), X.2.1 && ((if X.1 < p.2 then X.1 else p.2) == p.2), if 0 < (if X.1 < p.2 then X.1 else p.2) ∨ (p.2 = 0 ∧ X.2.1 = true) then putF X.2.2 p.1 ((getF X.2.2 p.1).1, (getF X.2.2 p.1).2.1 + (if X.1 < p.2 then X.1 else p.2), true) else X.2.2)
def crRun (n : Int) (fm : Int → Option FileM) (ps : List PcT) : Int × Bool × (Int → Option FileM) := ps.foldl crStep (if n < 0 then 0 else n, true, fm)
theorem crRun_at {n : Int} {fm : Int → Option FileM} {l : List PcT} {i : Nat} {y : PcT} {X : Int × Bool × (Int → Option FileM)} (hX : crRun n fm (l.take i) = X) (h : l[i]? = some y) : crRun n fm (l.take (i + 1)) = crStep X y := by
  rw [← hX, takeD_at h]; unfold crRun; rw [List.foldl_append]; rfl
section
variable {X : Int × Bool × (Int → Option FileM)} {y : PcT} {kp : Int}
theorem cr_l (hk : kp = if X.1 < y.2 then X.1 else y.2) : X.1 - kp = (crStep X y).1 := by subst hk; rfl
theorem cr_wf (h : X.2.1 = false) : false = (crStep X y).2.1 := by unfold crStep; simp [h]
theorem cr_w (h : X.2.1 = true) (hk : kp = if X.1 < y.2 then X.1 else y.2) : (kp == y.2) = (crStep X y).2.1 := by subst hk; unfold crStep; simp [h]
theorem cr_p (hk : kp = if X.1 < y.2 then X.1 else y.2) (h : 0 < kp ∨ (y.2 = 0 ∧ X.2.1 = true)) : putF X.2.2 y.1 ((getF X.2.2 y.1).1, (getF X.2.2 y.1).2.1 + kp, true) = (crStep X y).2.2 := by
  subst hk; unfold crStep; simp only [if_pos h]
theorem cr_n (hk : kp = if X.1 < y.2 then X.1 else y.2) (h : ¬ kp > 0) (h2 : ¬ y.2 = 0 ∨ X.2.1 = false) : X.2.2 = (crStep X y).2.2 := by
  subst hk; unfold crStep; simp only []; rw [if_neg]
  rintro (q | ⟨q, q2⟩)
  · exact h q
  · rcases h2 with h2 | h2
    · exact h2 q
    · rw [h2] at q2; cases q2
end
def trM (m : FileM) : Option FileM := if m.2.2 = true then some (m.1.take m.2.1.toNat, m.2) else none
def trF (fm : Int → Option FileM) : Int → Option FileM := fun k => (fm k).bind trM
def trP (fm : Int → Option FileM) (ks : List Int) (j : Nat) : Int → Option FileM := fun k => if k ∈ ks.take j then trF fm k else fm k
theorem not_before {ks : List Int} {j : Nat} {y : Int} (h : ks.Pairwise (· < ·)) (hy : ks[j]? = some y) : y ∉ ks.take j := by
  intro hm
  obtain ⟨i, hi, e⟩ := List.getElem_of_mem hm
  rw [List.length_take] at hi
  rw [List.getElem_take] at e
  obtain ⟨hj, e2⟩ := List.getElem?_eq_some_iff.1 hy
  have := (List.pairwise_iff_getElem.1 h) i j (by omega) hj (by omega)
  omega
theorem trP_get {fm : Int → Option FileM} {ks : List Int} {j : Nat} {y : Int} (h : KeysF fm ks) (hy : ks[j]? = some y) : getF (trP fm ks j) y = getF fm y ∧ fm y = some (getF fm y) := by
  have h1 := not_before h.1 hy
  refine ⟨by unfold getF trP; rw [if_neg h1], ?_⟩
  have h2 := (h.2 y).1 (List.mem_of_getElem? hy)
  unfold getF
  cases hf : fm y with
  | none => rw [hf] at h2; cases h2
  | some m => rfl
theorem trP_next {fm : Int → Option FileM} {ks : List Int} {j : Nat} {y : Int} (hy : ks[j]? = some y) {k : Int} : trP fm ks (j + 1) k = if k = y then trF fm y else trP fm ks j k := by
  unfold trP; rw [takeD_at hy]
  by_cases e : k = y
  · subst e; simp
  · simp [e]
theorem tr_del {g : Int → Option FileG} {fm : Int → Option FileM} {ks : List Int} {j : Nat} {y : Int} (hr : ∀ k, (g k).map (·.2) = trP fm ks j k) (h : KeysF fm ks) (hy : ks[j]? = some y) (hst : (getF fm y).2.2 = false) : ∀ k, ((fun b => if b = y then none else g b) k).map (·.2) = trP fm ks (j + 1) k := by
  intro k
  rw [trP_next hy]
  by_cases e : k = y
  · rw [if_pos e]; subst e; simp only [if_true]
    unfold trF; rw [(trP_get h hy).2]; simp [trM, hst]
  · rw [if_neg e]; simp only [if_neg e]; exact hr k
theorem tr_put {g : Int → Option FileG} {fm : Int → Option FileM} {ks : List Int} {j : Nat} {y : Int} {v : Value} (hr : ∀ k, (g k).map (·.2) = trP fm ks j k) (h : KeysF fm ks) (hy : ks[j]? = some y) (hst : (getF fm y).2.2 = true) : ∀ k, ((fun b => if b = y then some (v, (getF fm y).1.take (getF fm y).2.1.toNat, (getF fm y).2) else g b) k).map (·.2) = trP fm ks (j + 1) k := by
  intro k
  rw [trP_next hy]
  by_cases e : k = y
  · rw [if_pos e]; subst e; simp only [if_true]
    unfold trF; rw [(trP_get h hy).2]; simp [trM, hst]
  · rw [if_neg e]; simp only [if_neg e]; exact hr k
theorem trP_0 (fm : Int → Option FileM) (ks : List Int) : trP fm ks 0 = fm := by funext k; simp [trP]
theorem trP_end {fm : Int → Option FileM} {ks : List Int} {j : Nat} (h : KeysF fm ks) (hj : ks.length ≤ j) : trP fm ks j = trF fm := by
  funext k; unfold trP; rw [List.take_of_length_le hj]
  by_cases e : k ∈ ks
  · rw [if_pos e]
  · rw [if_neg e]
    have : fm k = none := by
      cases hf : fm k with
      | none => rfl
      | some m => exact absurd ((h.2 k).2 (by rw [hf]; rfl)) e
    unfold trF; rw [this]; rfl
def crS (s : DkS) (n : Int) : DkS := ⟨trF (crRun n s.fm s.ps).2.2, [], s.ser, s.boots + 1⟩
set_option maxRecDepth 100000 in
theorem dFiles_any (w0 : World) (S : Nat → Prop) (d : Nat) (M : Nat) (pv : Value) (g : Int → Option FileG) (c : Nat) (s : DkS) (w : World) (hbw : But S w0 w) (hO : DkP S w0.heap.size w d M pv g c s) (hc : c ≤ 1000000) :
    Calls Tryd.prog 26 #[pt d 0] w fun e w' => ∃ (ys : List Int) (u : Value), e = .returned (u) ∧ w'.ownsRow w.heap.size 3 1 u ys.length (ys.flatMap (intE .i64)) ∧ KeysF s.fm ys ∧ ys.length ≤ c ∧ DkP S w0.heap.size w' d M pv g c s ∧ But (S) w0 w' := by
 have hB0 := hbw
 have hz0 := hbw.size
 have hz0 := hbw.size
 have hl1 := hO.blk.lt
 have hl2 := hO.map.lt
 have hne3 := blk_ne_map hO.blk hO.map
 have hl4 := sl_len (row_sl hO.row pieceE_len)
 refine co_enter (n := 29) Tryd.func26 rfl rfl rfl [(0, pt d 0)] rfl (fun a h0 => ?_)
 refine co_seq ?_
 refine co_reg ?_
 refine pk0 (v := .slice none 0 0) h0 rfl fun a5 h5 => ?_; clear h0
 refine pl_nil ?_
 refine co_then ?_
 refine co_seq ?_
 refine co_seq ?_
 refine co_reg ?_
 refine pk0 (v := pt d 0) h5 rfl fun a6 h6 => ?_; clear h5
 refine pw h6 rfl (op_call (args := #[pt d 0]) (R := fun res xw => res = .bool false ∧ w = xw) rfl rfl rfl (by kernel_rfl) (by kernel_rfl) (Tryd.call34 _ _) (dzero_any d M pv s.ser s.boots w hO.blk) (by rintro e x ⟨rfl, rfl⟩; exact ⟨_, rfl, ⟨rfl, rfl⟩⟩)) ?_; clear h6
 rintro _ _ a7 ⟨rfl, rfl⟩ h7
 refine pl_nil ?_
 refine co_then ?_
 refine co_false h7 rfl ?_
 refine wp_skip ?_
 refine co_then ?_
 refine co_seq ?_
 refine co_reg ?_
 refine pk0 (v := pt d 0) h7 rfl fun a10 h10 => ?_; clear h7
 refine pk0 (v := pt d 0) h10 rfl fun a11 h11 => ?_; clear h10
 refine pk0 (v := pt d 1) h11 rfl fun a12 h12 => ?_; clear h11
 refine pk (v := .map (some M)) h12 rfl (rn_load1 rfl rfl Tryd.isAgg63 (hO.blk.cell rfl)) fun a13 h13 => ?_; clear h12
 refine pw h13 rfl (op_lenO (ts := #[]) rfl rfl Tryd.underlying63 hO.map (by kernel_rfl) rfl) ?_; clear h13
 rintro _ _ a14 ⟨k16, rfl, hk17, rfl⟩ h14
 refine pw h14 rfl (op_makeOwn (base := w.heap.size) (enc := (intE .i64)) (k := k16) (by_ := 8) (z := .int .i64 0) (size := 1) rfl rfl rfl Tryd.underlying53 (by kernel_rfl) (by omega) (by unfold maxLen; omega) (Nat.le_refl _)) ?_; clear h14
 rintro _ w19 a18 ⟨N20, rfl, hN21, hr22, hg23⟩ h18
 have hz24 := hg23.size
 refine pk0 (v := .slice (some ⟨N20, 0, none⟩) 0 k16) h18 rfl fun a25 h25 => ?_; clear h18
 refine pl_nil ?_
 refine co_then ?_
 refine co_seq ?_
 refine co_seq ?_
 refine co_reg ?_
 refine pk0 (v := pt d 0) h25 rfl fun a26 h26 => ?_; clear h25
 refine pk0 (v := pt d 0) h26 rfl fun a27 h27 => ?_; clear h26
 refine pk0 (v := pt d 1) h27 rfl fun a28 h28 => ?_; clear h27
 have hk29 := hO.blk.kept hg23 (by simp)
 refine pk (v := .map (some M)) h28 rfl (rn_load1 rfl rfl Tryd.isAgg63 (hk29.cell rfl)) fun a30 h30 => ?_; clear h28
 have hM41 := hO.map.kept hg23 (by simp)
 refine pw h30 rfl (op_rangeO (0 : Int) rfl rfl Tryd.underlying63 hM41) ?_; clear h30
 rintro _ w32 a31 ⟨r33, rfl, hN34, hz35, ⟨lt36, hI37, hfu38, hlc39⟩, hg40⟩ h31
 have hr43 := row_kept_new hO.row hg23
 have ha42 := row_fresh hr43 hN34
 have ha44 := row_fresh hr22 hN34
 have hz45 := hg40.size
 have hl46 := hI37.lt
 refine pl_nil ?_
 refine co_then ?_
 refine wp_block ?_
 have h47 : Slots 29 [(0, pt d 0), (3, .slice (some ⟨N20, 0, none⟩) 0 k16), (17, pt r33 0)] _ := h31.sub ⟨rfl, rfl, rfl, trivial⟩; clear h31
 refine co_loop (fun mm a x => ∃ (u : Value) (ks : List Int) (ls : List (Int × FileG)), Slots 29 [(0, pt d 0), (3, u), (17, pt r33 0)] a ∧ mm = ls.length ∧ ((ks ++ ls.map (·.1)).Perm (lt36.map (·.1))) ∧ (u ≠ .slice none 0 0) ∧ MapO intK fileV x M g c ∧ Fam S w0.heap.size x g ∧ x.ownsRow 0 74 2 pv s.ps.length (s.ps.flatMap pieceE) ∧ IterO intK fileV x r33 M ls ∧ x.ownsRow w.heap.size 3 1 u ks.length (ks.flatMap (intE .i64)) ∧ But (S) w0 x ∧ Blk x d 66 #[.bool true, .map (some M), pv, .int .i64 s.ser, .int .i64 s.boots]) (lt36.length) ?_ ?_
 have hM48 := hM41.kept hg40 (by simp)
 have hF49 := hO.fam.new hg23
 have hF50 := hF49.new hg40
 have hr51 := row_kept_new hr43 hg40
 have hr52 := row_kept_new hr22 hg40
 have hB53 := fbU_new hB0 hg23
 have hB54 := fbU_new hB53 hg40
 have hk55 := hk29.kept hg40 (by simp)
 · exact ⟨(.slice (some ⟨N20, 0, none⟩) 0 k16), [], lt36, h47.sub ⟨rfl, rfl, rfl, trivial⟩, rfl, by first | exact hP' | (rw [List.nil_append]), by first | (simp; done) | exact hnn', (fun_eq hM48 (by first | rfl | (funext b; rfl)) (by omega)), hF50, hr51, hI37, (row_eq hr52 (rfl)), hB54, hk55⟩
 · rintro k56 a57 w58 ⟨u, ks, ls, h57, rfl, hi59, hi60, hf61, hf62, hf63, hf64, hf65, hB66, hk67⟩
   have hz68 := hB66.size
   have hl69 := hk67.lt
   have hl70 := hf61.lt
   have hl71 := hf64.lt
   have hP : (ks ++ ls.map (·.1)).Perm (lt36.map (·.1)) := by assumption
   have hPl := hP.length_eq; simp only [List.length_append, List.length_map] at hPl
   refine co_seq ?_
   refine co_reg ?_
   refine pl_want h57 rfl rfl rfl (op_nextO rfl rfl hf64) ?_; clear h57
   rintro _ w73 a72 (⟨hnil82, rfl, rfl⟩ | ⟨p74, l75, l76, hleft77, rfl, hI78, hen79, hz80, hg81⟩) h72
   ·
    refine pk0 (v := .bool false) h72 rfl fun a83 h83 => ?_; clear h72
    refine pl_nil ?_
    refine co_then ?_
    refine co_seq ?_
    refine co_false h83 rfl ?_
    refine wp_exit ?_
    refine co_thenX ?_
    refine co_thenX ?_
    refine co_blockX ?_
    refine co_then ?_
    refine co_seq ?_
    refine co_reg ?_
    refine pk0 (v := u) h83 rfl fun a84 h84 => ?_; clear h83
    refine pw h84 rfl (op_call (args := #[u]) (R := fun res xw => res = .tuple #[] ∧ xw.ownsRow w.heap.size 3 1 u (srt ks).length ((srt ks).flatMap (intE .i64)) ∧ w58.grownBy xw (Value.ownBlock u)) rfl rfl rfl (by kernel_rfl) (by kernel_rfl) (Tryd.call45 _ _) (sortI_any u ks w.heap.size 3 w58 hf65 (by assumption) (by omega)) (by rintro e x ⟨rfl, h⟩; exact ⟨_, rfl, rfl, h⟩)) ?_; clear h84
    rintro _ w86 a85 ⟨rfl, hr87, hg88⟩ h85
    have hz89 := hg88.size
    have hle90 := srt_len ks
    refine pl_nil ?_
    refine co_then ?_
    refine co_seq ?_
    refine co_reg ?_
    refine pk0 (v := u) h85 rfl fun a91 h91 => ?_; clear h85
    refine pk0 (v := u) h91 rfl fun a92 h92 => ?_; clear h91
    refine pl_nil ?_
    refine co_then ?_
    refine wp_ret ?_
    refine co_ret1 h92 rfl rfl ?_
    have hk93 := hk67.kept hg88 (own_neT hf65 hk67 (by decide))
    have hM94 := hf61.kept hg88 (hf61.row hf65)
    have hr95 := row_kept_row hf63 hf65 hg88 (by decide)
    have hF96 := hf62.row hf65 (by decide) hg88
    have hB97 := fbU_row hB66 (InS.low hf65 (by omega)) hg88
    obtain rfl : ls = [] := hnil82
    exact ⟨_, _, rfl, (row_lows hr87 (by omega)), keys_of hO.rel hfu38 hP, by rw [srt_len]; simp at hPl; omega, ⟨hk93, hM94, hr95, hF96, hO.sd, hO.sM, hO.sp, hO.rel⟩, hB97⟩
   ·
    have hz98 := hg81.size
    have hl99 := hI78.lt
    have hln100 : ls.length = l75.length + l76.length + 1 := by rw [hleft77]; simp; omega
    have hla101 : (l75 ++ l76).length = l75.length + l76.length := List.length_append
    refine pk0 (v := .bool true) h72 rfl fun a102 h102 => ?_; clear h72
    refine pl_nil ?_
    refine co_then ?_
    refine co_seq ?_
    refine co_true h102 rfl ?_
    refine wp_skip ?_
    refine co_then ?_
    refine wp_block ?_
    refine co_seq ?_
    refine co_reg ?_
    refine pk (v := .tuple #[.int .i64 p74.1, .agg #[p74.2.1, .int .i64 p74.2.2.2.1, .bool p74.2.2.2.2]]) h102 rfl (rn_entry rfl rfl hen79) fun a103 h103 => ?_; clear h102
    refine pk0 (v := .int .i64 p74.1) h103 rfl fun a104 h104 => ?_; clear h103
    refine pk0 (v := .int .i64 p74.1) h104 rfl fun a105 h105 => ?_; clear h104
    refine pl_nil ?_
    refine co_then ?_
    refine co_reg ?_
    refine pk0 (v := u) h105 rfl fun a106 h106 => ?_; clear h105
    refine pk0 (v := .int .i64 p74.1) h106 rfl fun a107 h107 => ?_; clear h106
    refine pw h107 rfl (op_new (v := fun N => .slice (some ⟨N, 0, none⟩) 1 1) (T := 3) (cs := #[.int .i64 p74.1]) (by kernel_rfl) (by kernel_rfl) (by kernel_rfl)) ?_; clear h107
    rintro _ w109 a108 ⟨N110, rfl, hN113, hz114, hk112, hg111⟩ h108
    have hr116 := row_kept_at hf63 hg81 (ha42)
    have ha115 := row_fresh hr116 hN113
    have hu117 := row_under hr116 hN113
    have hr119 := row_kept_at hf65 hg81 ((hf64.row hf65).2)
    have ha118 := row_fresh hr119 hN113
    have hu120 := row_under hr119 hN113
    have hz121 := hg111.size
    try dsimp only at h108
    have hr128 := row_kept_new hr119 hg111
    refine pw h108 rfl (op_append rfl w.heap.size 3 (z := .int .i64 0) (size := 1) (bytes := 8) Tryd.underlying53 (by kernel_rfl) rfl rfl rfl hr128 rfl hk112 rfl (by kernel_rfl) (by first | omega | (simp only [List.length_nil, List.length_append, List.length_cons, List.length_take, List.length_drop]; omega)) (by first | omega | (simp only [List.length_nil, List.length_append, List.length_cons, List.length_take, List.length_drop]; omega)) (by omega)) ?_; clear h108
    rintro v124 w123 a122 ⟨hr125, hg126⟩ h122
    have hr125' : w123.ownsRow w.heap.size 3 1 v124 ((ks ++ [p74.1]).length) ((ks ++ [p74.1]).flatMap (intE .i64)) := row_push (y := p74.1) hr125 rfl rfl; clear hr125
    have hz129 := hg126.size
    refine pk0 (v := v124) h122 rfl fun a130 h130 => ?_; clear h122
    refine pl_nil ?_
    refine co_blockN ?_
    refine co_then ?_
    refine ⟨((l75 ++ l76).length), by omega, ?_⟩
    have hP' : ((ks ++ [p74.1]) ++ (l75 ++ l76).map (·.1)).Perm (lt36.map (·.1)) := by have hq := perm_snoc hP (L1 := l75.map (·.1)) (L2 := l76.map (·.1)) (p := p74.1) (by rw [hleft77]; simp); simpa using hq
    have hnn' := row_nnD hr125' (by simp)
    have hM131 := hf61.kept hg81 (by simp; omega)
    have hM132 := hM131.kept hg111 (by simp)
    have hM133 := hM132.kept hg126 (hM132.row hr128)
    have hF134 := hf62.iter hf64 hg81
    have hF135 := hF134.new hg111
    have hF136 := hF135.row hr128 (by decide) hg126
    have hr137 := row_kept_new hr116 hg111
    have hr138 := row_kept_row hr137 hr128 hg126 (by decide)
    have hI139 := hI78.kept hg111 (by simp) (by simp)
    have hI140 := hI139.kept hg126 (hI139.row hr128).1 (hI139.row hr128).2
    have hB141 := fbU_at hB66 hg81 (fun hlt => absurd hlt (by omega))
    have hB142 := fbU_new hB141 hg111
    have hB143 := fbU_row hB142 (InS.low hr128 (by omega)) hg126
    have hk144 := hk67.kept hg81 (by simp; omega)
    have hk145 := hk144.kept hg111 (by simp)
    have hk146 := hk145.kept hg126 (own_neT hr128 hk145 (by decide))
    exact ⟨v124, (ks ++ [p74.1]), (l75 ++ l76), h130.sub ⟨rfl, rfl, rfl, trivial⟩, rfl, by first | exact hP' | (rw [List.nil_append]), by first | (simp; done) | exact hnn', (fun_eq hM133 (by first | rfl | (funext b; rfl)) (by omega)), hF136, hr138, hI140, (row_eq hr125' (rfl)), hB143, hk146⟩
set_option maxRecDepth 100000 in
theorem dCrash_any (w0 : World) (S : Nat → Prop) (d : Nat) (M : Nat) (pv : Value) (g : Int → Option FileG) (c : Nat) (s : DkS) (n : Int) (w : World) (hbw : But S w0 w) (hO : DkP S w0.heap.size w d M pv g c s) (hc : c ≤ 100000) (hpl : s.ps.length ≤ 100000) (hbo : 0 ≤ s.boots ∧ s.boots ≤ 1000000) (hni : -9223372036854775808 ≤ n ∧ n ≤ 9223372036854775807) (hcr : ∀ (i : Nat) (X : Int × Bool × (Int → Option FileM)) (p : PcT), crRun n s.fm (s.ps.take i) = X → s.ps[i]? = some p → 0 ≤ p.2 ∧ 0 ≤ X.1 ∧ 0 ≤ (getF X.2.2 p.1).2.1 ∧ (getF X.2.2 p.1).2.1 + p.2 ≤ 1000000000000 ∧ X.1 ≤ 9223372036854775807) (hfin : ∀ k, 0 ≤ (getF (crRun n s.fm s.ps).2.2 k).2.1 ∧ (getF (crRun n s.fm s.ps).2.2 k).2.1 ≤ (getF (crRun n s.fm s.ps).2.2 k).1.length) :
    Calls Tryd.prog 14 #[pt d 0, .int .i64 n] w fun e w' => ∃ (pv' : Value) (g' : Int → Option FileG) (c' : Nat), e = .returned (.tuple #[]) ∧ DkP S w0.heap.size w' d M pv' g' c' (crS s n) ∧ c' ≤ 2 * c + 2 * s.ps.length ∧ But (S) w0 w' := by
 have hB0 := hbw
 have hz0 := hbw.size
 have hz0 := hbw.size
 have hl1 := hO.blk.lt
 have hl2 := hO.map.lt
 have hne3 := blk_ne_map hO.blk hO.map
 have hl4 := sl_len (row_sl hO.row pieceE_len)
 refine co_enter (n := 114) Tryd.func14 rfl rfl rfl [(0, pt d 0), (1, .int .i64 n)] rfl (fun a h0 => ?_)
 refine co_seq ?_
 refine co_seq ?_
 refine co_reg ?_
 refine pk0 (v := pt d 0) h0 rfl fun a5 h5 => ?_; clear h0
 refine pw h5 rfl (op_call (args := #[pt d 0]) (R := fun res xw => res = .bool false ∧ w = xw) rfl rfl rfl (by kernel_rfl) (by kernel_rfl) (Tryd.call34 _ _) (dzero_any d M pv s.ser s.boots w hO.blk) (by rintro e x ⟨rfl, rfl⟩; exact ⟨_, rfl, ⟨rfl, rfl⟩⟩)) ?_; clear h5
 rintro _ _ a6 ⟨rfl, rfl⟩ h6
 refine pl_nil ?_
 refine co_then ?_
 refine co_false h6 rfl ?_
 refine wp_skip ?_
 refine co_then ?_
 refine co_seq ?_
 refine co_reg ?_
 refine pk0 (v := .int .i64 n) h6 rfl fun a9 h9 => ?_; clear h6
 obtain ⟨kp10, hkp11⟩ : ∃ z : Int, z = (if n < 0 then 0 else n) := ⟨_, rfl⟩
 have hq12 : kp10 ≥ n ∧ kp10 ≥ 0 ∧ (kp10 = n ∨ kp10 = 0) := by rw [hkp11]; split <;> omega
 refine pk (v := .int .i64 kp10) h9 rfl (by rw [hkp11]; kernel_rfl) fun a13 h13 => ?_; clear h9
 refine pk0 (v := .int .i64 kp10) h13 rfl fun a14 h14 => ?_; clear h13
 refine pk0 (v := .bool true) h14 rfl fun a15 h15 => ?_; clear h14
 refine pl_nil ?_
 refine co_then ?_
 refine co_seq ?_
 refine co_seq ?_
 refine co_reg ?_
 refine pk0 (v := pt d 0) h15 rfl fun a16 h16 => ?_; clear h15
 refine pk0 (v := pt d 0) h16 rfl fun a17 h17 => ?_; clear h16
 refine pk0 (v := pt d 2) h17 rfl fun a18 h18 => ?_; clear h17
 refine pk (v := pv) h18 rfl (rn_load1 rfl rfl Tryd.isAgg64 (hO.blk.cell rfl)) fun a19 h19 => ?_; clear h18
 refine pk (v := .int .i64 ((s.ps.length : Nat) : Int)) h19 rfl (rn_lenOwn rfl rfl Tryd.underlying64 hO.row) fun a20 h20 => ?_; clear h19
 refine pk0 (v := .int .i64 0) h20 rfl fun a21 h21 => ?_; clear h20
 refine pl_nil ?_
 refine co_then ?_
 refine wp_block ?_
 have h22 : Slots 114 [(0, pt d 0), (4, .int .i64 kp10), (5, .bool true), (20, pv), (21, .int .i64 ((s.ps.length : Nat) : Int)), (22, .int .i64 0)] _ := h21.sub ⟨rfl, rfl, rfl, rfl, rfl, rfl, trivial⟩; clear h21
 refine co_loop (fun mm a x => ∃ (i : Nat) (X : Int × Bool × (Int → Option FileM)) (g1 : Int → Option FileG) (c1 : Nat), Slots 114 [(0, pt d 0), (4, .int .i64 X.1), (5, .bool X.2.1), (20, pv), (21, .int .i64 ((s.ps.length : Nat) : Int)), (22, .int .i64 ((i : Nat) : Int))] a ∧ mm = s.ps.length - i ∧ (i ≤ s.ps.length) ∧ (c1 ≤ c + i) ∧ (crRun n s.fm (s.ps.take i) = X) ∧ (∀ k, (g1 k).map (·.2) = X.2.2 k) ∧ MapO intK fileV x M g1 c1 ∧ x.ownsRow 0 74 2 pv s.ps.length (s.ps.flatMap pieceE) ∧ Fam S w0.heap.size x g1 ∧ But (S) w0 x ∧ Blk x d 66 #[.bool true, .map (some M), pv, .int .i64 s.ser, .int .i64 s.boots]) (s.ps.length - 0) ?_ ?_
 · exact ⟨0, (crRun n s.fm []), g, c, h22.sub ⟨rfl, (slot_eq rfl (congrArg (Value.int .i64) (by first | exact cr_l (by assumption) | assumption))), (slot_eq rfl (congrArg Value.bool (by first | rfl | exact cr_wf (by assumption) | exact cr_w (by assumption) (by assumption)))), rfl, rfl, (slot_eq rfl (congrArg (Value.int .i64) (by first | rfl | omega))), trivial⟩, rfl, by omega, by omega, by first | exact hX' | rfl, by first | exact hrl' | exact hO.rel, (fun_eq hO.map (by first | rfl | (funext b; rfl)) (by omega)), hO.row, hO.fam, hB0, hO.blk⟩
 · rintro k23 a24 w25 ⟨i, X, g1, c1, h24, rfl, hi26, hi27, hi28, hi29, hf30, hf31, hf32, hB33, hk34⟩
   have hz35 := hB33.size
   have hl36 := hk34.lt
   have hl37 := hf30.lt
   have hX : crRun n s.fm (s.ps.take i) = X := by assumption
   have hrl : ∀ k, (g1 k).map (·.2) = X.2.2 k := by assumption
   refine co_seq ?_
   refine co_reg ?_
   refine pk0 (v := .bool (decide (((i : Nat) : Int) < ((s.ps.length : Nat) : Int)))) h24 rfl fun a38 h38 => ?_; clear h24
   refine pl_nil ?_
   refine co_then ?_
   refine co_seq ?_
   cases hc39 : (decide (((i : Nat) : Int) < ((s.ps.length : Nat) : Int)))
   ·
    rw [hc39] at h38
    have hp40 : ¬ (((i : Nat) : Int) < ((s.ps.length : Nat) : Int)) := of_decide_eq_false hc39
    clear hc39
    refine co_false h38 rfl ?_
    refine wp_exit ?_
    refine co_thenX ?_
    refine co_thenX ?_
    refine co_blockX ?_
    refine co_then ?_
    refine co_seq ?_
    refine co_seq ?_
    refine co_reg ?_
    refine pk0 (v := pt d 0) h38 rfl fun a41 h41 => ?_; clear h38
    have hXz : crRun n s.fm s.ps = X := by have := hX; rwa [List.take_of_length_le (by omega)] at this
    refine pw h41 rfl (op_call (args := #[pt d 0]) (R := fun res xw => ∃ (ys : List Int) (u : Value), res = u ∧ xw.ownsRow w25.heap.size 3 1 u ys.length (ys.flatMap (intE .i64)) ∧ KeysF (⟨X.2.2, s.ps, s.ser, s.boots⟩ : DkS).fm ys ∧ ys.length ≤ c1 ∧ DkP S w0.heap.size xw d M pv g1 c1 (⟨X.2.2, s.ps, s.ser, s.boots⟩ : DkS) ∧ But (S) w0 xw) rfl rfl rfl (by kernel_rfl) (by kernel_rfl) (Tryd.call26 _ _) (dFiles_any w0 S d M pv g1 c1 (⟨X.2.2, s.ps, s.ser, s.boots⟩ : DkS) w25 hB33 ⟨hk34, hf30, hf31, hf32, hO.sd, hO.sM, hO.sp, hrl⟩ (by omega)) (by rintro e x ⟨ys, u, rfl, h1, h2, h5, h3, h4⟩; exact ⟨_, rfl, ys, u, rfl, h1, h2, h5, h3, h4⟩)) ?_; clear h41
    rintro u49 w43 a42 ⟨ys48, _, rfl, hr47, hK46, hyl50, hO44, hB45⟩ h42
    have hz51 := hB45.size
    have hl52 := hO44.blk.lt
    have hl53 := hO44.map.lt
    have hne54 := blk_ne_map hO44.blk hO44.map
    have hl55 := sl_len (row_sl hO44.row pieceE_len)
    have hl56 := sl_len (row_sl hr47 (intE_len .i64))
    refine pk (v := .int .i64 ((ys48.length : Nat) : Int)) h42 rfl (rn_lenOwn rfl rfl Tryd.underlying53 hr47) fun a57 h57 => ?_; clear h42
    refine pk0 (v := .int .i64 0) h57 rfl fun a58 h58 => ?_; clear h57
    refine pl_nil ?_
    refine co_then ?_
    refine wp_block ?_
    have hK2 : KeysF X.2.2 ys48 := hK46
    have h59 : Slots 114 [(0, pt d 0), (72, u49), (73, .int .i64 ((ys48.length : Nat) : Int)), (74, .int .i64 0)] _ := h58.sub ⟨rfl, rfl, rfl, rfl, trivial⟩; clear h58
    refine co_loop (fun mm a x => ∃ (j : Nat) (g2 : Int → Option FileG) (c2 : Nat), Slots 114 [(0, pt d 0), (72, u49), (73, .int .i64 ((ys48.length : Nat) : Int)), (74, .int .i64 ((j : Nat) : Int))] a ∧ mm = ys48.length - j ∧ (j ≤ ys48.length) ∧ (c2 ≤ c1 + j) ∧ (∀ k, (g2 k).map (·.2) = trP X.2.2 ys48 j k) ∧ MapO intK fileV x M g2 c2 ∧ x.ownsRow 0 74 2 pv s.ps.length (s.ps.flatMap pieceE) ∧ Fam S w0.heap.size x g2 ∧ x.ownsRow w25.heap.size 3 1 u49 ys48.length (ys48.flatMap (intE .i64)) ∧ But (S) w0 x ∧ Blk x d 66 #[.bool true, .map (some M), pv, .int .i64 s.ser, .int .i64 s.boots]) (ys48.length - 0) ?_ ?_
    · exact ⟨0, g1, c1, h59.sub ⟨rfl, rfl, rfl, (slot_eq rfl (congrArg (Value.int .i64) (by first | rfl | omega))), trivial⟩, rfl, by omega, by omega, by first | exact hrl2' | (rw [trP_0]; exact hO44.rel), (fun_eq hO44.map (by first | rfl | (funext b; rfl)) (by omega)), hO44.row, hO44.fam, hr47, hB45, hO44.blk⟩
    · rintro k60 a61 w62 ⟨j, g2, c2, h61, rfl, hi63, hi64, hi65, hf66, hf67, hf68, hf69, hB70, hk71⟩
      have hz72 := hB70.size
      have hl73 := hk71.lt
      have hl74 := hf66.lt
      have hrl2 : ∀ k, (g2 k).map (·.2) = trP X.2.2 ys48 j k := by assumption
      refine co_seq ?_
      refine co_reg ?_
      refine pk0 (v := .bool (decide (((j : Nat) : Int) < ((ys48.length : Nat) : Int)))) h61 rfl fun a75 h75 => ?_; clear h61
      refine pl_nil ?_
      refine co_then ?_
      refine co_seq ?_
      cases hc76 : (decide (((j : Nat) : Int) < ((ys48.length : Nat) : Int)))
      ·
       rw [hc76] at h75
       have hp77 : ¬ (((j : Nat) : Int) < ((ys48.length : Nat) : Int)) := of_decide_eq_false hc76
       clear hc76
       refine co_false h75 rfl ?_
       refine wp_exit ?_
       refine co_thenX ?_
       refine co_thenX ?_
       refine co_blockX ?_
       refine co_then ?_
       refine co_seq ?_
       refine co_reg ?_
       refine pk0 (v := pt d 0) h75 rfl fun a78 h78 => ?_; clear h75
       have hrz : ∀ k, (g2 k).map (·.2) = trF X.2.2 k := by have := hrl2; rwa [trP_end hK2 (by omega)] at this
       refine pw h78 rfl (op_call (args := #[pt d 0]) (R := fun res xw => res = .tuple #[] ∧ ∃ (pv : Value), DkP S w0.heap.size xw d M pv g2 c2 (forS (⟨trF X.2.2, s.ps, s.ser, s.boots⟩ : DkS)) ∧ But (S) w0 xw) rfl rfl rfl (by kernel_rfl) (by kernel_rfl) (Tryd.call36 _ _) (dforget_any w0 S d M pv g2 c2 (⟨trF X.2.2, s.ps, s.ser, s.boots⟩ : DkS) w62 hB70 ⟨hk71, hf66, hf67, hf68, hO44.sd, hO44.sM, hO44.sp, hrz⟩) (by rintro e x ⟨pv, rfl, h1, h2⟩; exact ⟨_, rfl, rfl, pv, h1, h2⟩)) ?_; clear h78
       rintro _ w80 a79 ⟨rfl, pv83, hO81, hB82⟩ h79
       have hz84 := hB82.size
       have hl85 := hO81.blk.lt
       have hl86 := hO81.map.lt
       have hne87 := blk_ne_map hO81.blk hO81.map
       have hl88 := sl_len (row_sl hO81.row pieceE_len)
       refine pl_nil ?_
       refine co_then ?_
       refine co_reg ?_
       refine pk0 (v := pt d 0) h79 rfl fun a89 h89 => ?_; clear h79
       refine pk0 (v := pt d 0) h89 rfl fun a90 h90 => ?_; clear h89
       refine pk0 (v := pt d 4) h90 rfl fun a91 h91 => ?_; clear h90
       refine pk (v := .int .i64 s.boots) h91 rfl (rn_load1 rfl rfl Tryd.isAgg3 (hO81.blk.cell rfl)) fun a92 h92 => ?_; clear h91
       refine pk (v := .int .i64 (s.boots + 1)) h92 rfl (rn_arith rfl rfl rfl rfl rfl rfl (IntWalk.i64_in _ (by omega))) fun a93 h93 => ?_; clear h92
       refine pk0 (v := pt d 0) h93 rfl fun a94 h94 => ?_; clear h93
       refine pk0 (v := pt d 4) h94 rfl fun a95 h95 => ?_; clear h94
       refine pwD h95 rfl (op_store1 rfl rfl rfl rfl Tryd.sizeOf3 hO81.blk rfl) ?_; clear h95
       rintro _ w97 a96 ⟨hk98, hz99, hg100⟩ h96
       have hk98' : Blk w97 d 66 #[.bool true, .map (some M), pv83, .int .i64 s.ser, .int .i64 (s.boots + 1)] := hk98; clear hk98
       have hz101 := hg100.size
       refine pl_nil ?_
       refine co_ret0n h96 rfl ?_
       have hM102 := hO81.map.kept hg100 (by simp; omega)
       have hr103 := row_kept_at hO81.row hg100 (own_neT hO81.row hO81.blk (by decide))
       have hF104 := hO81.fam.blk hO81.blk (by decide) hg100
       have hB105 := fbU_at hB82 hg100 (fun hlt => by rcases hO81.sd with hq | hq; exact hq; omega)
       exact ⟨_, _, _, rfl, by unfold crS; rw [hXz]; exact ⟨hk98', hM102, hr103, hF104, hO81.sd, hO81.sM, hO81.sp, hO81.rel⟩, by omega, hB105⟩
      ·
       rw [hc76] at h75
       have hp106 : ((j : Nat) : Int) < ((ys48.length : Nat) : Int) := of_decide_eq_true hc76
       clear hc76
       refine co_true h75 rfl ?_
       refine wp_skip ?_
       refine co_then ?_
       refine co_seq ?_
       refine wp_block ?_
       refine co_seq ?_
       refine co_reg ?_
       obtain ⟨y107, hy107⟩ : ∃ z, ys48[j]? = some z := ⟨_, List.getElem?_eq_getElem (by first | omega | (simp; done) | (simp; omega))⟩
       have oky107 := (fun (z : Int) (_ : z ∈ ys48) => trivial) _ (List.mem_of_getElem? hy107)
       have htp := trP_get hK2 hy107; have hfq := hfin y107; rw [hXz] at hfq; rw [← htp.1] at hfq
       refine pk (v := pt (blkOf u49) (offOf u49 + j * 1)) h75 rfl (rn_index rfl rfl rfl Tryd.underlying53 Tryd.sizeOf3 (row_sl hf69 (intE_len .i64)) (by omega) (by first | omega | (simp; done) | (simp; omega))) fun a108 h108 => ?_; clear h75
       refine pk (v := .int .i64 y107) h108 rfl (rn_load1 rfl rfl Tryd.isAgg3 ((sl_at (row_sl hf69 (intE_len .i64)) hy107) 0 _ rfl)) fun a109 h109 => ?_; clear h108
       refine pk0 (v := .int .i64 y107) h109 rfl fun a110 h110 => ?_; clear h109
       refine pl_nil ?_
       refine co_then ?_
       refine co_seq ?_
       refine co_reg ?_
       refine pk0 (v := pt d 0) h110 rfl fun a111 h111 => ?_; clear h110
       refine pk0 (v := pt d 0) h111 rfl fun a112 h112 => ?_; clear h111
       refine pk0 (v := pt d 1) h112 rfl fun a113 h113 => ?_; clear h112
       refine pk (v := .map (some M)) h113 rfl (rn_load1 rfl rfl Tryd.isAgg63 (hk71.cell rfl)) fun a114 h114 => ?_; clear h113
       refine pk0 (v := .int .i64 y107) h114 rfl fun a115 h115 => ?_; clear h114
       obtain ⟨f116, hf117⟩ : ∃ z, (g2 y107).getD fz = z := ⟨_, rfl⟩
       have hA118 := hf68.at hf117
       have hl119 := sl_len (row_sl hA118.1 u8E_len)
       have hgf120 := getF_eq hrl2 hf117
       have hgl121 : f116.2.1.length = (getF (trP X.2.2 ys48 j) y107).1.length := by rw [hgf120]
       have hgs122 : f116.2.2.1 = (getF (trP X.2.2 ys48 j) y107).2.1 := by rw [hgf120]
       refine pk (v := .agg #[f116.1, .int .i64 f116.2.2.1, .bool f116.2.2.2]) h115 rfl (rn_lookO (a := y107) (f := f116) (intKL Tryd.underlying3) rfl rfl rfl Tryd.underlying63 filez hf66 hf117) fun a123 h123 => ?_; clear h115
       refine pw h123 rfl (op_new (v := fun N => pt N 0) (T := 77) (cs := #[.slice none 0 0, .int .i64 0, .bool false]) (by kernel_rfl) (by kernel_rfl) (by kernel_rfl)) ?_; clear h123
       rintro _ w125 a124 ⟨N126, rfl, hN129, hz130, hk128, hg127⟩ h124
       have ha131 := row_fresh hf67 hN129
       have hu132 := row_under hf67 hN129
       have ha133 := row_fresh hf69 hN129
       have hu134 := row_under hf69 hN129
       have ha135 := row_fresh hA118.1 hN129
       have hu136 := row_under hA118.1 hN129
       have hz137 := hg127.size
       try dsimp only at h124
       have hr143 := row_kept_new hA118.1 hg127
       refine pwD h124 rfl (op_storeN rfl rfl rfl (all_cons (row_one hr143) (all_cons rfl (all_cons rfl all_nil))) (by kernel_rfl) hk128 rfl) ?_; clear h124
       rintro _ w139 a138 ⟨hk140, hz141, hg142⟩ h138
       have hk140' : Blk w139 N126 77 #[f116.1, .int .i64 f116.2.2.1, .bool f116.2.2.2] := hk140; clear hk140
       have hz144 := hg142.size
       refine pl_nil ?_
       refine co_then ?_
       refine co_seq ?_
       refine co_seq ?_
       refine co_reg ?_
       refine pk0 (v := pt N126 2) h138 rfl fun a145 h145 => ?_; clear h138
       refine pk (v := .bool f116.2.2.2) h145 rfl (rn_load1 rfl rfl Tryd.isAgg4 (hk140'.cell rfl)) fun a146 h146 => ?_; clear h145
       have hB148 := fbU_new hB70 hg127
       have hB149 := fbU_at hB148 hg142 (fun hlt => absurd hlt (by omega))
       have hk150 := hk71.kept hg127 (by simp)
       have hk151 := hk150.kept hg142 (by simp; omega)
       have hM152 := hf66.kept hg127 (by simp)
       have hM153 := hM152.kept hg142 (by simp; omega)
       have hr154 := row_kept_new hf67 hg127
       have hr155 := row_kept_at hr154 hg142 (ha131)
       have hF156 := hf68.new hg127
       have hF157 := hF156.blk hk128 (by decide) hg142
       have hr158 := row_kept_new hf69 hg127
       have hr159 := row_kept_at hr158 hg142 (ha133)
       cases hc147 : (f116.2.2.2)
       ·
        rw [hc147] at h146
        refine pk0 (v := .bool true) h146 rfl fun a160 h160 => ?_; clear h146
        refine pl_nil ?_
        refine co_then ?_
        refine co_true h160 rfl ?_
        refine co_seq ?_
        refine co_reg ?_
        refine pk0 (v := pt d 0) h160 rfl fun a161 h161 => ?_; clear h160
        refine pk0 (v := pt d 0) h161 rfl fun a162 h162 => ?_; clear h161
        refine pk0 (v := pt d 1) h162 rfl fun a163 h163 => ?_; clear h162
        refine pk (v := .map (some M)) h163 rfl (rn_load1 rfl rfl Tryd.isAgg63 (hk151.cell rfl)) fun a164 h164 => ?_; clear h163
        refine pk0 (v := .int .i64 y107) h164 rfl fun a165 h165 => ?_; clear h164
        refine pwD h165 rfl (op_deleteO (a := y107) (intKL Tryd.underlying3) rfl rfl rfl Tryd.underlying63 hM153) ?_; clear h165
        rintro _ w167 a166 ⟨hm168, hz169, hg170⟩ h166
        have hF171 := hF157.del y107
        have hz172 := hg170.size
        have hl173 := hm168.lt
        refine pl_nil ?_
        refine co_then ?_
        refine wp_exit ?_
        refine co_thenX ?_
        refine co_blockX ?_
        refine co_then ?_
        refine co_reg ?_
        refine pk (v := .int .i64 ((j + 1 : Nat) : Int)) h166 rfl (rn_arith' rfl rfl rfl rfl rfl rfl (IntWalk.i64_in _ (by omega)) (by omega)) fun a174 h174 => ?_; clear h166
        refine pk0 (v := .int .i64 ((j + 1 : Nat) : Int)) h174 rfl fun a175 h175 => ?_; clear h174
        refine pl_nil ?_
        refine co_then ?_
        refine ⟨(ys48.length - (j + 1)), by omega, ?_⟩
        have htb : (getF X.2.2 y107).2.2 = f116.2.2.2 := by rw [← htp.1, ← hgf120]
        have hrl2' : ∀ k, ((fun b => if b = y107 then none else g2 b) k).map (·.2) = trP X.2.2 ys48 (j + 1) k := by
          exact tr_del hrl2 hK2 hy107 (by rw [htb]; assumption)
        have hr176 := row_kept_at hr155 hg170 (hM153.row hr155)
        have hF177 := hF171.map hM153 hg170
        have hr178 := row_kept_at hr159 hg170 (hM153.row hr159)
        have hB179 := fbU_at hB149 hg170 (fun hlt => by rcases hO44.sM with hq | hq; exact hq; omega)
        have hk180 := hk151.kept hg170 (by simp; omega)
        exact ⟨j + 1, (fun b => if b = y107 then none else g2 b), c2, h175.sub ⟨rfl, rfl, rfl, rfl, trivial⟩, rfl, by omega, by omega, by first | exact hrl2' | (rw [trP_0]; exact hO44.rel), (fun_eq hm168 (by first | rfl | (funext b; rfl)) (by omega)), hr176, hF177, hr178, hB179, hk180⟩
       ·
        rw [hc147] at h146
        refine pk0 (v := .bool false) h146 rfl fun a181 h181 => ?_; clear h146
        refine pl_nil ?_
        refine co_then ?_
        refine co_false h181 rfl ?_
        refine wp_skip ?_
        refine co_then ?_
        refine co_seq ?_
        refine co_reg ?_
        refine pk0 (v := pt N126 0) h181 rfl fun a182 h182 => ?_; clear h181
        refine pk (v := f116.1) h182 rfl (rn_load1 rfl rfl Tryd.isAgg75 (hk140'.cell rfl)) fun a183 h183 => ?_; clear h182
        refine pk0 (v := pt N126 1) h183 rfl fun a184 h184 => ?_; clear h183
        refine pk (v := .int .i64 f116.2.2.1) h184 rfl (rn_load1 rfl rfl Tryd.isAgg3 (hk140'.cell rfl)) fun a185 h185 => ?_; clear h184
        have hr186 := row_kept_at hr143 hg142 (ha135)
        have hr187 := row_cut hr186 u8E_len ((f116.2.2.1).toNat) (by omega) (.inr trivial)
        refine pk (v := subV (f116.1) 0 ((f116.2.2.1).toNat) 1) h185 rfl (rn_sliceTo rfl rfl rfl Tryd.underlying75 Tryd.sizeOf5 (row_sl hr186 u8E_len) (by omega) (by omega)) fun a188 h188 => ?_; clear h185
        refine pk0 (v := pt N126 0) h188 rfl fun a189 h189 => ?_; clear h188
        refine pwD h189 rfl (op_store1 rfl rfl rfl (row_one hr187) Tryd.sizeOf75 hk140' rfl) ?_; clear h189
        rintro _ w191 a190 ⟨hk192, hz193, hg194⟩ h190
        have hk192' : Blk w191 N126 77 #[subV (f116.1) 0 ((f116.2.2.1).toNat) 1, .int .i64 f116.2.2.1, .bool f116.2.2.2] := hk192; clear hk192
        have hz195 := hg194.size
        refine pl_nil ?_
        refine co_then ?_
        refine dr_gen (fun x => But (S) w0 x ∧ Blk x d 66 #[.bool true, .map (some M), pv, .int .i64 s.ser, .int .i64 s.boots] ∧ Blk x N126 77 #[subV (f116.1) 0 ((f116.2.2.1).toNat) 1, .int .i64 f116.2.2.1, .bool f116.2.2.2]) (by kernel_rfl) (fun w196 hg197 => ?_) (fun w196 hg197 => ?_)
        ·
         have hz198 := hg197.size
         have hB199 := fbU_at hB149 hg194 (fun hlt => absurd hlt (by omega))
         have hB200 := fbU_new hB199 hg197
         have hk201 := hk151.kept hg194 (by simp; omega)
         have hk202 := hk201.kept hg197 (by simp)
         have hk203 := hk192'.kept hg197 (by simp)
         exact ⟨hB200, hk202, hk203⟩
        have hz204 := hg197.size
        have hB205 := fbU_at hB149 hg194 (fun hlt => absurd hlt (by omega))
        have hB206 := fbU_new hB205 hg197
        have hk207 := hk151.kept hg194 (by simp; omega)
        have hk208 := hk207.kept hg197 (by simp)
        have hk209 := hk192'.kept hg197 (by simp)
        refine dk0 0 (v := pt d 0) h190 rfl rfl ⟨hB206, hk208, hk209⟩ fun a210 h210 => ?_; clear h190
        refine dk0 1 (v := pt d 0) h210 rfl rfl ⟨hB206, hk208, hk209⟩ fun a211 h211 => ?_; clear h210
        refine dk0 2 (v := pt d 1) h211 rfl rfl ⟨hB206, hk208, hk209⟩ fun a212 h212 => ?_; clear h211
        refine dk 3 (v := .map (some M)) h212 rfl rfl ⟨hB206, hk208, hk209⟩ (fun x hx => (rn_load1 rfl rfl Tryd.isAgg63 (hx.2.1.cell rfl))) fun a213 h213 => ?_; clear h212
        refine dk0 4 (v := .int .i64 y107) h213 rfl rfl ⟨hB206, hk208, hk209⟩ fun a214 h214 => ?_; clear h213
        refine dk 5 (v := .agg #[subV (f116.1) 0 ((f116.2.2.1).toNat) 1, .int .i64 f116.2.2.1, .bool f116.2.2.2]) h214 rfl rfl ⟨hB206, hk208, hk209⟩ (fun x hx => (rn_loadN rfl rfl Tryd.underlying77 rfl (by kernel_rfl) hx.2.2.all)) fun a215 h215 => ?_; clear h214
        have hM221 := hM153.kept hg194 (by simp; omega)
        have hM222 := hM221.kept hg197 (by simp)
        refine d1D 6 h215 rfl rfl (op_updateO (a := y107) (v := (subV (f116.1) 0 ((f116.2.2.1).toNat) 1, f116.2.1.take ((f116.2.2.1).toNat), f116.2.2.1, f116.2.2.2)) (intKL Tryd.underlying3) rfl rfl rfl rfl Tryd.underlying63 hM222) ?_ ?_; clear h215
        ·
         rintro _ w217 ⟨hm218, hz219, hg220⟩
         have hr224 := row_kept_at hr186 hg194 (ha135)
         have hr225 := row_kept_new hr224 hg197
         have hF226 := hF157.blk hk140' (by decide) hg194
         have hF227 := hF226.new hg197
         have hr228 := row_kept_at hr187 hg194 ((fun eq => ha135 ((cut_block hr186 ((f116.2.2.1).toNat)) ▸ eq)))
         have hr229 := row_kept_new hr228 hg197
         have hF223 := Fam.put (u := (subV (f116.1) 0 ((f116.2.2.1).toNat) 1)) (l := (f116.2.1.take ((f116.2.2.1).toNat))) (sf := f116.2.2.1) (b0 := f116.2.2.2) hF227 hf117 hr229 (cut_block hr225 _)
         have hz230 := hg220.size
         have hl231 := hm218.lt
         have hB232 := fbU_at hB206 hg220 (fun hlt => by rcases hO44.sM with hq | hq; exact hq; omega)
         have hk233 := hk208.kept hg220 (by simp; omega)
         have hk234 := hk209.kept hg220 (by simp; omega)
         exact ⟨hB232, hk233, hk234⟩
        rintro _ w217 a216 ⟨hm218, hz219, hg220⟩ h216
        have hr224 := row_kept_at hr186 hg194 (ha135)
        have hr225 := row_kept_new hr224 hg197
        have hF226 := hF157.blk hk140' (by decide) hg194
        have hF227 := hF226.new hg197
        have hr228 := row_kept_at hr187 hg194 ((fun eq => ha135 ((cut_block hr186 ((f116.2.2.1).toNat)) ▸ eq)))
        have hr229 := row_kept_new hr228 hg197
        have hF223 := Fam.put (u := (subV (f116.1) 0 ((f116.2.2.1).toNat) 1)) (l := (f116.2.1.take ((f116.2.2.1).toNat))) (sf := f116.2.2.1) (b0 := f116.2.2.2) hF227 hf117 hr229 (cut_block hr225 _)
        have hz230 := hg220.size
        have hl231 := hm218.lt
        refine dr_done (by kernel_rfl) ?_
        refine co_blockN ?_
        refine co_then ?_
        refine co_reg ?_
        refine pk (v := .int .i64 ((j + 1 : Nat) : Int)) h216 rfl (rn_arith' rfl rfl rfl rfl rfl rfl (IntWalk.i64_in _ (by omega)) (by omega)) fun a232 h232 => ?_; clear h216
        refine pk0 (v := .int .i64 ((j + 1 : Nat) : Int)) h232 rfl fun a233 h233 => ?_; clear h232
        refine pl_nil ?_
        refine co_then ?_
        refine ⟨(ys48.length - (j + 1)), by omega, ?_⟩
        have htb : (getF X.2.2 y107).2.2 = f116.2.2.2 := by rw [← htp.1, ← hgf120]
        have hrl2' : ∀ k, ((fun b => if b = y107 then some (subV (f116.1) 0 ((f116.2.2.1).toNat) 1, f116.2.1.take ((f116.2.2.1).toNat), f116.2.2.1, f116.2.2.2) else g2 b) k).map (·.2) = trP X.2.2 ys48 (j + 1) k := by
          have hq := tr_put (v := subV f116.1 0 f116.2.2.1.toNat 1) hrl2 hK2 hy107 (by rw [htb]; assumption)
          rw [← htp.1, ← hgf120] at hq; exact hq
        have hr234 := row_kept_at hr155 hg194 (ha131)
        have hr235 := row_kept_new hr234 hg197
        have hr236 := row_kept_at hr235 hg220 (hM222.row hr235)
        have hF237 := hF223.map hM222 hg220
        have hr238 := row_kept_at hr159 hg194 (ha133)
        have hr239 := row_kept_new hr238 hg197
        have hr240 := row_kept_at hr239 hg220 (hM222.row hr239)
        have hB241 := fbU_at hB206 hg220 (fun hlt => by rcases hO44.sM with hq | hq; exact hq; omega)
        have hk242 := hk208.kept hg220 (by simp; omega)
        exact ⟨j + 1, (fun b => if b = y107 then some (subV (f116.1) 0 ((f116.2.2.1).toNat) 1, f116.2.1.take ((f116.2.2.1).toNat), f116.2.2.1, f116.2.2.2) else g2 b), c2 + 1, h233.sub ⟨rfl, rfl, rfl, rfl, trivial⟩, rfl, by omega, by omega, by first | exact hrl2' | (rw [trP_0]; exact hO44.rel), (fun_eq hm218 (by first | rfl | (funext b; rfl)) (by omega)), hr236, hF237, hr240, hB241, hk242⟩
   ·
    rw [hc39] at h38
    have hp243 : ((i : Nat) : Int) < ((s.ps.length : Nat) : Int) := of_decide_eq_true hc39
    clear hc39
    refine co_true h38 rfl ?_
    refine wp_skip ?_
    refine co_then ?_
    refine co_seq ?_
    refine wp_block ?_
    refine co_seq ?_
    refine co_reg ?_
    obtain ⟨y244, hy244⟩ : ∃ z, s.ps[i]? = some z := ⟨_, List.getElem?_eq_getElem (by first | omega | (simp; done) | (simp; omega))⟩
    have oky244 := (fun (z : PcT) (_ : z ∈ s.ps) => trivial) _ (List.mem_of_getElem? hy244)
    have hcq := hcr i X y244 hX hy244
    refine pk (v := pt (blkOf pv) (offOf pv + i * 2)) h38 rfl (rn_index rfl rfl rfl Tryd.underlying64 Tryd.sizeOf74 (row_sl hf31 pieceE_len) (by omega) (by first | omega | (simp; done) | (simp; omega))) fun a245 h245 => ?_; clear h38
    refine pk (v := .agg #[.int .i64 y244.1, .int .i64 y244.2]) h245 rfl (rn_loadN rfl rfl Tryd.underlying74 rfl (by kernel_rfl) (sl_at (row_sl hf31 pieceE_len) hy244)) fun a246 h246 => ?_; clear h245
    refine pw h246 rfl (op_new (v := fun N => pt N 0) (T := 74) (cs := #[.int .i64 0, .int .i64 0]) (by kernel_rfl) (by kernel_rfl) (by kernel_rfl)) ?_; clear h246
    rintro _ w248 a247 ⟨N249, rfl, hN252, hz253, hk251, hg250⟩ h247
    have ha254 := row_fresh hf31 hN252
    have hu255 := row_under hf31 hN252
    have hz256 := hg250.size
    try dsimp only at h247
    refine pwD h247 rfl (op_storeN rfl rfl rfl (by kernel_rfl) (by kernel_rfl) hk251 rfl) ?_; clear h247
    rintro _ w258 a257 ⟨hk259, hz260, hg261⟩ h257
    have hk259' : Blk w258 N249 74 #[.int .i64 y244.1, .int .i64 y244.2] := hk259; clear hk259
    have hz262 := hg261.size
    refine pl_nil ?_
    refine co_then ?_
    refine co_seq ?_
    refine co_reg ?_
    refine pk0 (v := pt N249 1) h257 rfl fun a263 h263 => ?_; clear h257
    refine pk (v := .int .i64 y244.2) h263 rfl (rn_load1 rfl rfl Tryd.isAgg3 (hk259'.cell rfl)) fun a264 h264 => ?_; clear h263
    refine pk0 (v := .int .i64 X.1) h264 rfl fun a265 h265 => ?_; clear h264
    obtain ⟨kp266, hkp267⟩ : ∃ z : Int, z = (if X.1 < y244.2 then X.1 else y244.2) := ⟨_, rfl⟩
    have hq268 : kp266 ≤ y244.2 ∧ kp266 ≤ X.1 ∧ (kp266 = y244.2 ∨ kp266 = X.1) := by rw [hkp267]; split <;> omega
    refine pk (v := .int .i64 kp266) h265 rfl (by rw [hkp267]; kernel_rfl) fun a269 h269 => ?_; clear h265
    refine pk0 (v := .int .i64 kp266) h269 rfl fun a270 h270 => ?_; clear h269
    refine pl_nil ?_
    refine co_then ?_
    refine co_seq ?_
    refine co_reg ?_
    refine pk0 (v := .int .i64 X.1) h270 rfl fun a271 h271 => ?_; clear h270
    refine pk0 (v := .int .i64 kp266) h271 rfl fun a272 h272 => ?_; clear h271
    refine pk (v := .int .i64 (X.1 - kp266)) h272 rfl (rn_arith rfl rfl rfl rfl rfl rfl (IntWalk.i64_in _ (by omega))) fun a273 h273 => ?_; clear h272
    refine pk0 (v := .int .i64 (X.1 - kp266)) h273 rfl fun a274 h274 => ?_; clear h273
    refine pl_nil ?_
    refine co_then ?_
    refine co_seq ?_
    refine co_seq ?_
    refine co_reg ?_
    refine pk0 (v := .int .i64 kp266) h274 rfl fun a275 h275 => ?_; clear h274
    refine pk0 (v := .bool (decide (kp266 > 0))) h275 rfl fun a276 h276 => ?_; clear h275
    refine pk0 (v := .bool (decide (kp266 > 0))) h276 rfl fun a277 h277 => ?_; clear h276
    have hB279 := fbU_new hB33 hg250
    have hB280 := fbU_at hB279 hg261 (fun hlt => absurd hlt (by omega))
    have hk281 := hk34.kept hg250 (by simp)
    have hk282 := hk281.kept hg261 (by simp; omega)
    have hM283 := hf30.kept hg250 (by simp)
    have hM284 := hM283.kept hg261 (by simp; omega)
    have hr285 := row_kept_new hf31 hg250
    have hr286 := row_kept_at hr285 hg261 (ha254)
    have hF287 := hf32.new hg250
    have hF288 := hF287.blk hk251 (by decide) hg261
    cases hc278 : (decide (kp266 > 0))
    ·
     rw [hc278] at h277
     have hp289 : ¬ (kp266 > 0) := of_decide_eq_false hc278
     clear hc278
     refine pk0 (v := pt N249 1) h277 rfl fun a290 h290 => ?_; clear h277
     refine pk (v := .int .i64 y244.2) h290 rfl (rn_load1 rfl rfl Tryd.isAgg3 (hk259'.cell rfl)) fun a291 h291 => ?_; clear h290
     refine pk0 (v := .bool (y244.2 == 0)) h291 rfl fun a292 h292 => ?_; clear h291
     refine pk0 (v := .bool (y244.2 == 0)) h292 rfl fun a293 h293 => ?_; clear h292
     cases hc294 : (y244.2 == 0)
     ·
      rw [hc294] at h293
      have hp295 : ¬ (y244.2 = 0) := by first | simpa using hc294 | simpa [and_assoc] using hc294
      clear hc294
      refine psk h293 rfl fun a296 h296 => ?_; clear h293
      refine pk0 (v := .bool false) h296 rfl fun a297 h297 => ?_; clear h296
      refine pk0 (v := .bool false) h297 rfl fun a298 h298 => ?_; clear h297
      refine pl_nil ?_
      refine co_then ?_
      refine co_false h298 rfl ?_
      refine wp_skip ?_
      refine co_then ?_
      refine co_reg ?_
      refine pk0 (v := .bool X.2.1) h298 rfl fun a299 h299 => ?_; clear h298
      refine pk0 (v := .bool X.2.1) h299 rfl fun a300 h300 => ?_; clear h299
      cases hc301 : (X.2.1)
      ·
       rw [hc301] at h300
       refine psk h300 rfl fun a302 h302 => ?_; clear h300
       refine psk h302 rfl fun a303 h303 => ?_; clear h302
       refine psk h303 rfl fun a304 h304 => ?_; clear h303
       refine psk h304 rfl fun a305 h305 => ?_; clear h304
       refine pk0 (v := .bool false) h305 rfl fun a306 h306 => ?_; clear h305
       refine pk0 (v := .bool false) h306 rfl fun a307 h307 => ?_; clear h306
       refine pl_nil ?_
       refine co_blockN ?_
       refine co_then ?_
       refine co_reg ?_
       refine pk (v := .int .i64 ((i + 1 : Nat) : Int)) h307 rfl (rn_arith' rfl rfl rfl rfl rfl rfl (IntWalk.i64_in _ (by omega)) (by omega)) fun a308 h308 => ?_; clear h307
       refine pk0 (v := .int .i64 ((i + 1 : Nat) : Int)) h308 rfl fun a309 h309 => ?_; clear h308
       refine pl_nil ?_
       refine co_then ?_
       refine ⟨(s.ps.length - (i + 1)), by omega, ?_⟩
       have hX' := crRun_at hX hy244
       have hrl' : ∀ k, (g1 k).map (·.2) = (crStep X y244).2.2 k := by
         rw [← cr_n hkp267 (by omega) (by first | exact .inl (by omega) | exact .inr (by assumption))]; exact hrl
       exact ⟨i + 1, (crStep X y244), g1, c1, h309.sub ⟨rfl, (slot_eq rfl (congrArg (Value.int .i64) (by first | exact cr_l (by assumption) | assumption))), (slot_eq rfl (congrArg Value.bool (by first | rfl | exact cr_wf (by assumption) | exact cr_w (by assumption) (by assumption)))), rfl, rfl, rfl, trivial⟩, rfl, by omega, by omega, by first | exact hX' | rfl, by first | exact hrl' | exact hO.rel, (fun_eq hM284 (by first | rfl | (funext b; rfl)) (by omega)), hr286, hF288, hB280, hk282⟩
      ·
       rw [hc301] at h300
       refine pk0 (v := .int .i64 kp266) h300 rfl fun a310 h310 => ?_; clear h300
       refine pk0 (v := pt N249 1) h310 rfl fun a311 h311 => ?_; clear h310
       refine pk (v := .int .i64 y244.2) h311 rfl (rn_load1 rfl rfl Tryd.isAgg3 (hk259'.cell rfl)) fun a312 h312 => ?_; clear h311
       refine pk0 (v := .bool (kp266 == y244.2)) h312 rfl fun a313 h313 => ?_; clear h312
       refine pk0 (v := .bool (kp266 == y244.2)) h313 rfl fun a314 h314 => ?_; clear h313
       refine pk0 (v := .bool (kp266 == y244.2)) h314 rfl fun a315 h315 => ?_; clear h314
       refine pl_nil ?_
       refine co_blockN ?_
       refine co_then ?_
       refine co_reg ?_
       refine pk (v := .int .i64 ((i + 1 : Nat) : Int)) h315 rfl (rn_arith' rfl rfl rfl rfl rfl rfl (IntWalk.i64_in _ (by omega)) (by omega)) fun a316 h316 => ?_; clear h315
       refine pk0 (v := .int .i64 ((i + 1 : Nat) : Int)) h316 rfl fun a317 h317 => ?_; clear h316
       refine pl_nil ?_
       refine co_then ?_
       refine ⟨(s.ps.length - (i + 1)), by omega, ?_⟩
       have hX' := crRun_at hX hy244
       have hrl' : ∀ k, (g1 k).map (·.2) = (crStep X y244).2.2 k := by
         rw [← cr_n hkp267 (by omega) (by first | exact .inl (by omega) | exact .inr (by assumption))]; exact hrl
       exact ⟨i + 1, (crStep X y244), g1, c1, h317.sub ⟨rfl, (slot_eq rfl (congrArg (Value.int .i64) (by first | exact cr_l (by assumption) | assumption))), (slot_eq rfl (congrArg Value.bool (by first | rfl | exact cr_wf (by assumption) | exact cr_w (by assumption) (by assumption)))), rfl, rfl, rfl, trivial⟩, rfl, by omega, by omega, by first | exact hX' | rfl, by first | exact hrl' | exact hO.rel, (fun_eq hM284 (by first | rfl | (funext b; rfl)) (by omega)), hr286, hF288, hB280, hk282⟩
     ·
      rw [hc294] at h293
      have hp318 : y244.2 = 0 := by first | simpa using hc294 | simpa [and_assoc] using hc294
      clear hc294
      refine pk0 (v := .bool X.2.1) h293 rfl fun a319 h319 => ?_; clear h293
      refine pk0 (v := .bool X.2.1) h319 rfl fun a320 h320 => ?_; clear h319
      refine pk0 (v := .bool X.2.1) h320 rfl fun a321 h321 => ?_; clear h320
      refine pl_nil ?_
      refine co_then ?_
      cases hc322 : (X.2.1)
      ·
       rw [hc322] at h321
       refine co_false h321 rfl ?_
       refine wp_skip ?_
       refine co_then ?_
       refine co_reg ?_
       refine pk0 (v := .bool false) h321 rfl fun a323 h323 => ?_; clear h321
       refine pk0 (v := .bool false) h323 rfl fun a324 h324 => ?_; clear h323
       refine psk h324 rfl fun a325 h325 => ?_; clear h324
       refine psk h325 rfl fun a326 h326 => ?_; clear h325
       refine psk h326 rfl fun a327 h327 => ?_; clear h326
       refine psk h327 rfl fun a328 h328 => ?_; clear h327
       refine pk0 (v := .bool false) h328 rfl fun a329 h329 => ?_; clear h328
       refine pk0 (v := .bool false) h329 rfl fun a330 h330 => ?_; clear h329
       refine pl_nil ?_
       refine co_blockN ?_
       refine co_then ?_
       refine co_reg ?_
       refine pk (v := .int .i64 ((i + 1 : Nat) : Int)) h330 rfl (rn_arith' rfl rfl rfl rfl rfl rfl (IntWalk.i64_in _ (by omega)) (by omega)) fun a331 h331 => ?_; clear h330
       refine pk0 (v := .int .i64 ((i + 1 : Nat) : Int)) h331 rfl fun a332 h332 => ?_; clear h331
       refine pl_nil ?_
       refine co_then ?_
       refine ⟨(s.ps.length - (i + 1)), by omega, ?_⟩
       have hX' := crRun_at hX hy244
       have hrl' : ∀ k, (g1 k).map (·.2) = (crStep X y244).2.2 k := by
         rw [← cr_n hkp267 (by omega) (by first | exact .inl (by omega) | exact .inr (by assumption))]; exact hrl
       exact ⟨i + 1, (crStep X y244), g1, c1, h332.sub ⟨rfl, (slot_eq rfl (congrArg (Value.int .i64) (by first | exact cr_l (by assumption) | assumption))), (slot_eq rfl (congrArg Value.bool (by first | rfl | exact cr_wf (by assumption) | exact cr_w (by assumption) (by assumption)))), rfl, rfl, rfl, trivial⟩, rfl, by omega, by omega, by first | exact hX' | rfl, by first | exact hrl' | exact hO.rel, (fun_eq hM284 (by first | rfl | (funext b; rfl)) (by omega)), hr286, hF288, hB280, hk282⟩
      ·
       rw [hc322] at h321
       refine co_true h321 rfl ?_
       refine co_seq ?_
       refine dr_gen (fun x => But (S) w0 x ∧ Blk x d 66 #[.bool true, .map (some M), pv, .int .i64 s.ser, .int .i64 s.boots] ∧ Blk x N249 74 #[.int .i64 y244.1, .int .i64 y244.2]) (by kernel_rfl) (fun w333 hg334 => ?_) (fun w333 hg334 => ?_)
       ·
        have hz335 := hg334.size
        have hB336 := fbU_new hB280 hg334
        have hk337 := hk282.kept hg334 (by simp)
        have hk338 := hk259'.kept hg334 (by simp)
        exact ⟨hB336, hk337, hk338⟩
       have hz339 := hg334.size
       have hB340 := fbU_new hB280 hg334
       have hk341 := hk282.kept hg334 (by simp)
       have hk342 := hk259'.kept hg334 (by simp)
       refine dk0 0 (v := pt d 0) h321 rfl rfl ⟨hB340, hk341, hk342⟩ fun a343 h343 => ?_; clear h321
       refine dk0 1 (v := pt d 0) h343 rfl rfl ⟨hB340, hk341, hk342⟩ fun a344 h344 => ?_; clear h343
       refine dk0 2 (v := pt d 1) h344 rfl rfl ⟨hB340, hk341, hk342⟩ fun a345 h345 => ?_; clear h344
       refine dk 3 (v := .map (some M)) h345 rfl rfl ⟨hB340, hk341, hk342⟩ (fun x hx => (rn_load1 rfl rfl Tryd.isAgg63 (hx.2.1.cell rfl))) fun a346 h346 => ?_; clear h345
       refine dk0 4 (v := pt N249 0) h346 rfl rfl ⟨hB340, hk341, hk342⟩ fun a347 h347 => ?_; clear h346
       refine dk 5 (v := .int .i64 y244.1) h347 rfl rfl ⟨hB340, hk341, hk342⟩ (fun x hx => (rn_load1 rfl rfl Tryd.isAgg3 (hx.2.2.cell rfl))) fun a348 h348 => ?_; clear h347
       refine dr_many [6, 7] (by kernel_rfl) (by simp) ⟨?_, ?_, trivial⟩
       ·
        have hF352 := hF288.new hg334
        have hM357 := hM284.kept hg334 (by simp)
        obtain ⟨f349, hf350⟩ : ∃ z, (g1 y244.1).getD fz = z := ⟨_, rfl⟩
        have hA351 := hF352.at hf350
        have hl353 := sl_len (row_sl hA351.1 u8E_len)
        have hgf354 := getF_eq hrl hf350
        have hgl355 : f349.2.1.length = (getF X.2.2 y244.1).1.length := by rw [hgf354]
        have hgs356 : f349.2.2.1 = (getF X.2.2 y244.1).2.1 := by rw [hgf354]
        refine dr_opVal (i := 6) (v := .agg #[f349.1, .int .i64 f349.2.2.1, .bool f349.2.2.2]) h348 rfl rfl rfl rfl (by kernel_rfl) rfl (rn_lookO (a := y244.1) (f := f349) (intKL Tryd.underlying3) rfl rfl rfl Tryd.underlying63 filez hM357 hf350) ⟨hB340, hk341, hk342⟩ (fun a358 h358 => ?_); clear h348
        refine d1 7 h358 rfl rfl (op_new (v := fun N => pt N 0) (T := 77) (cs := #[.slice none 0 0, .int .i64 0, .bool false]) (by kernel_rfl) (by kernel_rfl) (by kernel_rfl)) ?_ ?_; clear h358
        ·
         rintro _ w360 ⟨N361, rfl, hN364, hz365, hk363, hg362⟩
         have hr367 := row_kept_new hr286 hg334
         have ha366 := row_fresh hr367 hN364
         have hu368 := row_under hr367 hN364
         have ha369 := row_fresh hA351.1 hN364
         have hu370 := row_under hA351.1 hN364
         have hz371 := hg362.size
         have hB372 := fbU_new hB340 hg362
         have hk373 := hk341.kept hg362 (by simp)
         have hk374 := hk342.kept hg362 (by simp)
         exact ⟨hB372, hk373, hk374⟩
        rintro _ w360 a359 ⟨N361, rfl, hN364, hz365, hk363, hg362⟩ h359
        have hr367 := row_kept_new hr286 hg334
        have ha366 := row_fresh hr367 hN364
        have hu368 := row_under hr367 hN364
        have ha369 := row_fresh hA351.1 hN364
        have hu370 := row_under hA351.1 hN364
        have hz371 := hg362.size
        try dsimp only at h359
        have hB372 := fbU_new hB340 hg362
        have hk373 := hk341.kept hg362 (by simp)
        have hk374 := hk342.kept hg362 (by simp)
        have hr380 := row_kept_new hA351.1 hg362
        refine d1D 8 h359 rfl rfl (op_storeN rfl rfl rfl (all_cons (row_one hr380) (all_cons rfl (all_cons rfl all_nil))) (by kernel_rfl) hk363 rfl) ?_ ?_; clear h359
        ·
         rintro _ w376 ⟨hk377, hz378, hg379⟩
         have hk377' : Blk w376 N361 77 #[f349.1, .int .i64 f349.2.2.1, .bool f349.2.2.2] := hk377; clear hk377
         have hz381 := hg379.size
         have hB382 := fbU_at hB372 hg379 (fun hlt => absurd hlt (by omega))
         have hk383 := hk373.kept hg379 (by simp; omega)
         have hk384 := hk374.kept hg379 (by simp; omega)
         exact ⟨hB382, hk383, hk384⟩
        rintro _ w376 a375 ⟨hk377, hz378, hg379⟩ h375
        have hk377' : Blk w376 N361 77 #[f349.1, .int .i64 f349.2.2.1, .bool f349.2.2.2] := hk377; clear hk377
        have hz381 := hg379.size
        refine dr_done (by kernel_rfl) ?_
        refine co_then ?_
        refine co_seq ?_
        refine co_reg ?_
        refine pk0 (v := pt N361 1) h375 rfl fun a382 h382 => ?_; clear h375
        refine pk (v := .int .i64 f349.2.2.1) h382 rfl (rn_load1 rfl rfl Tryd.isAgg3 (hk377'.cell rfl)) fun a383 h383 => ?_; clear h382
        refine pk0 (v := .int .i64 kp266) h383 rfl fun a384 h384 => ?_; clear h383
        refine pk (v := .int .i64 (f349.2.2.1 + kp266)) h384 rfl (rn_arith rfl rfl rfl rfl rfl rfl (IntWalk.i64_in _ (by omega))) fun a385 h385 => ?_; clear h384
        refine pk0 (v := pt N361 1) h385 rfl fun a386 h386 => ?_; clear h385
        refine pwD h386 rfl (op_store1 rfl rfl rfl rfl Tryd.sizeOf3 hk377' rfl) ?_; clear h386
        rintro _ w388 a387 ⟨hk389, hz390, hg391⟩ h387
        have hk389' : Blk w388 N361 77 #[f349.1, .int .i64 (f349.2.2.1 + kp266), .bool f349.2.2.2] := hk389; clear hk389
        have hz392 := hg391.size
        refine pk0 (v := pt N361 2) h387 rfl fun a393 h393 => ?_; clear h387
        refine pwD h393 rfl (op_store1 rfl rfl rfl rfl Tryd.sizeOf4 hk389' rfl) ?_; clear h393
        rintro _ w395 a394 ⟨hk396, hz397, hg398⟩ h394
        have hk396' : Blk w395 N361 77 #[f349.1, .int .i64 (f349.2.2.1 + kp266), .bool true] := hk396; clear hk396
        have hz399 := hg398.size
        refine pl_nil ?_
        refine co_then ?_
        refine dr_gen (fun x => But (S) w0 x ∧ Blk x d 66 #[.bool true, .map (some M), pv, .int .i64 s.ser, .int .i64 s.boots] ∧ Blk x N249 74 #[.int .i64 y244.1, .int .i64 y244.2] ∧ Blk x N361 77 #[f349.1, .int .i64 (f349.2.2.1 + kp266), .bool true]) (by kernel_rfl) (fun w400 hg401 => ?_) (fun w400 hg401 => ?_)
        ·
         have hz402 := hg401.size
         have hB403 := fbU_at hB372 hg379 (fun hlt => absurd hlt (by omega))
         have hB404 := fbU_at hB403 hg391 (fun hlt => absurd hlt (by omega))
         have hB405 := fbU_at hB404 hg398 (fun hlt => absurd hlt (by omega))
         have hB406 := fbU_new hB405 hg401
         have hk407 := hk373.kept hg379 (by simp; omega)
         have hk408 := hk407.kept hg391 (by simp; omega)
         have hk409 := hk408.kept hg398 (by simp; omega)
         have hk410 := hk409.kept hg401 (by simp)
         have hk411 := hk374.kept hg379 (by simp; omega)
         have hk412 := hk411.kept hg391 (by simp; omega)
         have hk413 := hk412.kept hg398 (by simp; omega)
         have hk414 := hk413.kept hg401 (by simp)
         have hk415 := hk396'.kept hg401 (by simp)
         exact ⟨hB406, hk410, hk414, hk415⟩
        have hz416 := hg401.size
        have hB417 := fbU_at hB372 hg379 (fun hlt => absurd hlt (by omega))
        have hB418 := fbU_at hB417 hg391 (fun hlt => absurd hlt (by omega))
        have hB419 := fbU_at hB418 hg398 (fun hlt => absurd hlt (by omega))
        have hB420 := fbU_new hB419 hg401
        have hk421 := hk373.kept hg379 (by simp; omega)
        have hk422 := hk421.kept hg391 (by simp; omega)
        have hk423 := hk422.kept hg398 (by simp; omega)
        have hk424 := hk423.kept hg401 (by simp)
        have hk425 := hk374.kept hg379 (by simp; omega)
        have hk426 := hk425.kept hg391 (by simp; omega)
        have hk427 := hk426.kept hg398 (by simp; omega)
        have hk428 := hk427.kept hg401 (by simp)
        have hk429 := hk396'.kept hg401 (by simp)
        refine dk0 0 (v := pt d 0) h394 rfl rfl ⟨hB420, hk424, hk428, hk429⟩ fun a430 h430 => ?_; clear h394
        refine dk0 1 (v := pt d 0) h430 rfl rfl ⟨hB420, hk424, hk428, hk429⟩ fun a431 h431 => ?_; clear h430
        refine dk0 2 (v := pt d 1) h431 rfl rfl ⟨hB420, hk424, hk428, hk429⟩ fun a432 h432 => ?_; clear h431
        refine dk 3 (v := .map (some M)) h432 rfl rfl ⟨hB420, hk424, hk428, hk429⟩ (fun x hx => (rn_load1 rfl rfl Tryd.isAgg63 (hx.2.1.cell rfl))) fun a433 h433 => ?_; clear h432
        refine dk0 4 (v := pt N249 0) h433 rfl rfl ⟨hB420, hk424, hk428, hk429⟩ fun a434 h434 => ?_; clear h433
        refine dk 5 (v := .int .i64 y244.1) h434 rfl rfl ⟨hB420, hk424, hk428, hk429⟩ (fun x hx => (rn_load1 rfl rfl Tryd.isAgg3 (hx.2.2.1.cell rfl))) fun a435 h435 => ?_; clear h434
        refine dk 6 (v := .agg #[f349.1, .int .i64 (f349.2.2.1 + kp266), .bool true]) h435 rfl rfl ⟨hB420, hk424, hk428, hk429⟩ (fun x hx => (rn_loadN rfl rfl Tryd.underlying77 rfl (by kernel_rfl) hx.2.2.2.all)) fun a436 h436 => ?_; clear h435
        have hM442 := hM357.kept hg362 (by simp)
        have hM443 := hM442.kept hg379 (by simp; omega)
        have hM444 := hM443.kept hg391 (by simp; omega)
        have hM445 := hM444.kept hg398 (by simp; omega)
        have hM446 := hM445.kept hg401 (by simp)
        refine d1D 7 h436 rfl rfl (op_updateO (a := y244.1) (v := (f349.1, f349.2.1, f349.2.2.1 + kp266, true)) (intKL Tryd.underlying3) rfl rfl rfl rfl Tryd.underlying63 hM446) ?_ ?_; clear h436
        ·
         rintro _ w438 ⟨hm439, hz440, hg441⟩
         have hF448 := hF352.new hg362
         have hF449 := hF448.blk hk363 (by decide) hg379
         have hF450 := hF449.blk hk377' (by decide) hg391
         have hF451 := hF450.blk hk389' (by decide) hg398
         have hF452 := hF451.new hg401
         have hr453 := row_kept_at hr380 hg379 (ha369)
         have hr454 := row_kept_at hr453 hg391 (ha369)
         have hr455 := row_kept_at hr454 hg398 (ha369)
         have hr456 := row_kept_new hr455 hg401
         have hF447 := Fam.put (u := (f349.1)) (l := f349.2.1) (sf := (f349.2.2.1 + kp266)) (b0 := true) hF452 hf350 hr456 rfl
         have hz457 := hg441.size
         have hl458 := hm439.lt
         have hB459 := fbU_at hB420 hg441 (fun hlt => by rcases hO.sM with hq | hq; exact hq; omega)
         have hk460 := hk424.kept hg441 (by simp; omega)
         have hk461 := hk428.kept hg441 (by simp; omega)
         have hk462 := hk429.kept hg441 (by simp; omega)
         exact ⟨hB459, hk460, hk461, hk462⟩
        rintro _ w438 a437 ⟨hm439, hz440, hg441⟩ h437
        have hF448 := hF352.new hg362
        have hF449 := hF448.blk hk363 (by decide) hg379
        have hF450 := hF449.blk hk377' (by decide) hg391
        have hF451 := hF450.blk hk389' (by decide) hg398
        have hF452 := hF451.new hg401
        have hr453 := row_kept_at hr380 hg379 (ha369)
        have hr454 := row_kept_at hr453 hg391 (ha369)
        have hr455 := row_kept_at hr454 hg398 (ha369)
        have hr456 := row_kept_new hr455 hg401
        have hF447 := Fam.put (u := (f349.1)) (l := f349.2.1) (sf := (f349.2.2.1 + kp266)) (b0 := true) hF452 hf350 hr456 rfl
        have hz457 := hg441.size
        have hl458 := hm439.lt
        refine dr_done (by kernel_rfl) ?_
        refine co_then ?_
        refine co_reg ?_
        refine pk0 (v := .bool true) h437 rfl fun a459 h459 => ?_; clear h437
        refine pk0 (v := .bool true) h459 rfl fun a460 h460 => ?_; clear h459
        refine pk0 (v := .int .i64 kp266) h460 rfl fun a461 h461 => ?_; clear h460
        refine pk0 (v := pt N249 1) h461 rfl fun a462 h462 => ?_; clear h461
        have hk463 := hk428.kept hg441 (by simp; omega)
        refine pk (v := .int .i64 y244.2) h462 rfl (rn_load1 rfl rfl Tryd.isAgg3 (hk463.cell rfl)) fun a464 h464 => ?_; clear h462
        refine pk0 (v := .bool (kp266 == y244.2)) h464 rfl fun a465 h465 => ?_; clear h464
        refine pk0 (v := .bool (kp266 == y244.2)) h465 rfl fun a466 h466 => ?_; clear h465
        refine pk0 (v := .bool (kp266 == y244.2)) h466 rfl fun a467 h467 => ?_; clear h466
        refine pl_nil ?_
        refine co_blockN ?_
        refine co_then ?_
        refine co_reg ?_
        refine pk (v := .int .i64 ((i + 1 : Nat) : Int)) h467 rfl (rn_arith' rfl rfl rfl rfl rfl rfl (IntWalk.i64_in _ (by omega)) (by omega)) fun a468 h468 => ?_; clear h467
        refine pk0 (v := .int .i64 ((i + 1 : Nat) : Int)) h468 rfl fun a469 h469 => ?_; clear h468
        refine pl_nil ?_
        refine co_then ?_
        refine ⟨(s.ps.length - (i + 1)), by omega, ?_⟩
        have hX' := crRun_at hX hy244
        have hrl' : ∀ k, ((fun b => if b = y244.1 then some (f349.1, f349.2.1, f349.2.2.1 + kp266, true) else g1 b) k).map (·.2) = (crStep X y244).2.2 k := by
          rw [← cr_p hkp267 (by first | exact .inl (by omega) | exact .inr ⟨by omega, by assumption⟩), ← hgf354]; exact putF_eq hrl
        have hr470 := row_kept_new hr367 hg362
        have hr471 := row_kept_at hr470 hg379 (ha366)
        have hr472 := row_kept_at hr471 hg391 (ha366)
        have hr473 := row_kept_at hr472 hg398 (ha366)
        have hr474 := row_kept_new hr473 hg401
        have hr475 := row_kept_at hr474 hg441 (hM446.row hr474)
        have hF476 := hF447.map hM446 hg441
        have hB477 := fbU_at hB420 hg441 (fun hlt => by rcases hO.sM with hq | hq; exact hq; omega)
        have hk478 := hk424.kept hg441 (by simp; omega)
        exact ⟨i + 1, (crStep X y244), (fun b => if b = y244.1 then some (f349.1, f349.2.1, f349.2.2.1 + kp266, true) else g1 b), c1 + 1, h469.sub ⟨rfl, (slot_eq rfl (congrArg (Value.int .i64) (by first | exact cr_l (by assumption) | assumption))), (slot_eq rfl (congrArg Value.bool (by first | rfl | exact cr_wf (by assumption) | exact cr_w (by assumption) (by assumption)))), rfl, rfl, rfl, trivial⟩, rfl, by omega, by omega, by first | exact hX' | rfl, by first | exact hrl' | exact hO.rel, (fun_eq hm439 (by first | rfl | (funext b; rfl)) (by omega)), hr475, hF476, hB477, hk478⟩
       ·
        refine dr_op (i := 7) h348 rfl rfl rfl rfl (op_new (v := fun N => pt N 0) (T := 77) (cs := #[.slice none 0 0, .int .i64 0, .bool false]) (by kernel_rfl) (by kernel_rfl) (by kernel_rfl)) ?_ ?_; clear h348
        ·
         rintro _ w480 ⟨N481, rfl, hN484, hz485, hk483, hg482⟩
         have hr487 := row_kept_new hr286 hg334
         have ha486 := row_fresh hr487 hN484
         have hu488 := row_under hr487 hN484
         have hz489 := hg482.size
         have hB490 := fbU_new hB340 hg482
         have hk491 := hk341.kept hg482 (by simp)
         have hk492 := hk342.kept hg482 (by simp)
         exact ⟨hB490, hk491, hk492⟩
        rintro _ w480 a479 ⟨N481, rfl, hN484, hz485, hk483, hg482⟩ h479
        have hr487 := row_kept_new hr286 hg334
        have ha486 := row_fresh hr487 hN484
        have hu488 := row_under hr487 hN484
        have hz489 := hg482.size
        try dsimp only at h479
        have hB490 := fbU_new hB340 hg482
        have hk491 := hk341.kept hg482 (by simp)
        have hk492 := hk342.kept hg482 (by simp)
        refine dr_many [6] (by kernel_rfl) (by simp) ⟨?_, trivial⟩
        ·
         have hF496 := hF288.new hg334
         have hF497 := hF496.new hg482
         have hM502 := hM284.kept hg334 (by simp)
         have hM503 := hM502.kept hg482 (by simp)
         obtain ⟨f493, hf494⟩ : ∃ z, (g1 y244.1).getD fz = z := ⟨_, rfl⟩
         have hA495 := hF497.at hf494
         have hl498 := sl_len (row_sl hA495.1 u8E_len)
         have hgf499 := getF_eq hrl hf494
         have hgl500 : f493.2.1.length = (getF X.2.2 y244.1).1.length := by rw [hgf499]
         have hgs501 : f493.2.2.1 = (getF X.2.2 y244.1).2.1 := by rw [hgf499]
         refine dr_opVal (i := 6) (v := .agg #[f493.1, .int .i64 f493.2.2.1, .bool f493.2.2.2]) h479 rfl rfl rfl rfl (by kernel_rfl) rfl (rn_lookO (a := y244.1) (f := f493) (intKL Tryd.underlying3) rfl rfl rfl Tryd.underlying63 filez hM503 hf494) ⟨hB490, hk491, hk492⟩ (fun a504 h504 => ?_); clear h479
         refine d1D 8 h504 rfl rfl (op_storeN rfl rfl rfl (all_cons (row_one hA495.1) (all_cons rfl (all_cons rfl all_nil))) (by kernel_rfl) hk483 rfl) ?_ ?_; clear h504
         ·
          rintro _ w506 ⟨hk507, hz508, hg509⟩
          have hk507' : Blk w506 N481 77 #[f493.1, .int .i64 f493.2.2.1, .bool f493.2.2.2] := hk507; clear hk507
          have hz510 := hg509.size
          have hB511 := fbU_at hB490 hg509 (fun hlt => absurd hlt (by omega))
          have hk512 := hk491.kept hg509 (by simp; omega)
          have hk513 := hk492.kept hg509 (by simp; omega)
          exact ⟨hB511, hk512, hk513⟩
         rintro _ w506 a505 ⟨hk507, hz508, hg509⟩ h505
         have hk507' : Blk w506 N481 77 #[f493.1, .int .i64 f493.2.2.1, .bool f493.2.2.2] := hk507; clear hk507
         have hz510 := hg509.size
         refine dr_done (by kernel_rfl) ?_
         refine co_then ?_
         refine co_seq ?_
         refine co_reg ?_
         refine pk0 (v := pt N481 1) h505 rfl fun a511 h511 => ?_; clear h505
         refine pk (v := .int .i64 f493.2.2.1) h511 rfl (rn_load1 rfl rfl Tryd.isAgg3 (hk507'.cell rfl)) fun a512 h512 => ?_; clear h511
         refine pk0 (v := .int .i64 kp266) h512 rfl fun a513 h513 => ?_; clear h512
         refine pk (v := .int .i64 (f493.2.2.1 + kp266)) h513 rfl (rn_arith rfl rfl rfl rfl rfl rfl (IntWalk.i64_in _ (by omega))) fun a514 h514 => ?_; clear h513
         refine pk0 (v := pt N481 1) h514 rfl fun a515 h515 => ?_; clear h514
         refine pwD h515 rfl (op_store1 rfl rfl rfl rfl Tryd.sizeOf3 hk507' rfl) ?_; clear h515
         rintro _ w517 a516 ⟨hk518, hz519, hg520⟩ h516
         have hk518' : Blk w517 N481 77 #[f493.1, .int .i64 (f493.2.2.1 + kp266), .bool f493.2.2.2] := hk518; clear hk518
         have hz521 := hg520.size
         refine pk0 (v := pt N481 2) h516 rfl fun a522 h522 => ?_; clear h516
         refine pwD h522 rfl (op_store1 rfl rfl rfl rfl Tryd.sizeOf4 hk518' rfl) ?_; clear h522
         rintro _ w524 a523 ⟨hk525, hz526, hg527⟩ h523
         have hk525' : Blk w524 N481 77 #[f493.1, .int .i64 (f493.2.2.1 + kp266), .bool true] := hk525; clear hk525
         have hz528 := hg527.size
         refine pl_nil ?_
         refine co_then ?_
         refine dr_gen (fun x => But (S) w0 x ∧ Blk x d 66 #[.bool true, .map (some M), pv, .int .i64 s.ser, .int .i64 s.boots] ∧ Blk x N249 74 #[.int .i64 y244.1, .int .i64 y244.2] ∧ Blk x N481 77 #[f493.1, .int .i64 (f493.2.2.1 + kp266), .bool true]) (by kernel_rfl) (fun w529 hg530 => ?_) (fun w529 hg530 => ?_)
         ·
          have hz531 := hg530.size
          have hB532 := fbU_at hB490 hg509 (fun hlt => absurd hlt (by omega))
          have hB533 := fbU_at hB532 hg520 (fun hlt => absurd hlt (by omega))
          have hB534 := fbU_at hB533 hg527 (fun hlt => absurd hlt (by omega))
          have hB535 := fbU_new hB534 hg530
          have hk536 := hk491.kept hg509 (by simp; omega)
          have hk537 := hk536.kept hg520 (by simp; omega)
          have hk538 := hk537.kept hg527 (by simp; omega)
          have hk539 := hk538.kept hg530 (by simp)
          have hk540 := hk492.kept hg509 (by simp; omega)
          have hk541 := hk540.kept hg520 (by simp; omega)
          have hk542 := hk541.kept hg527 (by simp; omega)
          have hk543 := hk542.kept hg530 (by simp)
          have hk544 := hk525'.kept hg530 (by simp)
          exact ⟨hB535, hk539, hk543, hk544⟩
         have hz545 := hg530.size
         have hB546 := fbU_at hB490 hg509 (fun hlt => absurd hlt (by omega))
         have hB547 := fbU_at hB546 hg520 (fun hlt => absurd hlt (by omega))
         have hB548 := fbU_at hB547 hg527 (fun hlt => absurd hlt (by omega))
         have hB549 := fbU_new hB548 hg530
         have hk550 := hk491.kept hg509 (by simp; omega)
         have hk551 := hk550.kept hg520 (by simp; omega)
         have hk552 := hk551.kept hg527 (by simp; omega)
         have hk553 := hk552.kept hg530 (by simp)
         have hk554 := hk492.kept hg509 (by simp; omega)
         have hk555 := hk554.kept hg520 (by simp; omega)
         have hk556 := hk555.kept hg527 (by simp; omega)
         have hk557 := hk556.kept hg530 (by simp)
         have hk558 := hk525'.kept hg530 (by simp)
         refine dk0 0 (v := pt d 0) h523 rfl rfl ⟨hB549, hk553, hk557, hk558⟩ fun a559 h559 => ?_; clear h523
         refine dk0 1 (v := pt d 0) h559 rfl rfl ⟨hB549, hk553, hk557, hk558⟩ fun a560 h560 => ?_; clear h559
         refine dk0 2 (v := pt d 1) h560 rfl rfl ⟨hB549, hk553, hk557, hk558⟩ fun a561 h561 => ?_; clear h560
         refine dk 3 (v := .map (some M)) h561 rfl rfl ⟨hB549, hk553, hk557, hk558⟩ (fun x hx => (rn_load1 rfl rfl Tryd.isAgg63 (hx.2.1.cell rfl))) fun a562 h562 => ?_; clear h561
         refine dk0 4 (v := pt N249 0) h562 rfl rfl ⟨hB549, hk553, hk557, hk558⟩ fun a563 h563 => ?_; clear h562
         refine dk 5 (v := .int .i64 y244.1) h563 rfl rfl ⟨hB549, hk553, hk557, hk558⟩ (fun x hx => (rn_load1 rfl rfl Tryd.isAgg3 (hx.2.2.1.cell rfl))) fun a564 h564 => ?_; clear h563
         refine dk 6 (v := .agg #[f493.1, .int .i64 (f493.2.2.1 + kp266), .bool true]) h564 rfl rfl ⟨hB549, hk553, hk557, hk558⟩ (fun x hx => (rn_loadN rfl rfl Tryd.underlying77 rfl (by kernel_rfl) hx.2.2.2.all)) fun a565 h565 => ?_; clear h564
         have hM571 := hM503.kept hg509 (by simp; omega)
         have hM572 := hM571.kept hg520 (by simp; omega)
         have hM573 := hM572.kept hg527 (by simp; omega)
         have hM574 := hM573.kept hg530 (by simp)
         refine d1D 7 h565 rfl rfl (op_updateO (a := y244.1) (v := (f493.1, f493.2.1, f493.2.2.1 + kp266, true)) (intKL Tryd.underlying3) rfl rfl rfl rfl Tryd.underlying63 hM574) ?_ ?_; clear h565
         ·
          rintro _ w567 ⟨hm568, hz569, hg570⟩
          have hF576 := hF497.blk hk483 (by decide) hg509
          have hF577 := hF576.blk hk507' (by decide) hg520
          have hF578 := hF577.blk hk518' (by decide) hg527
          have hF579 := hF578.new hg530
          have hr580 := row_kept_at hA495.1 hg509 (own_neT hA495.1 hk483 (by decide))
          have hr581 := row_kept_at hr580 hg520 (own_neT hr580 hk507' (by decide))
          have hr582 := row_kept_at hr581 hg527 (own_neT hr581 hk518' (by decide))
          have hr583 := row_kept_new hr582 hg530
          have hF575 := Fam.put (u := (f493.1)) (l := f493.2.1) (sf := (f493.2.2.1 + kp266)) (b0 := true) hF579 hf494 hr583 rfl
          have hz584 := hg570.size
          have hl585 := hm568.lt
          have hB586 := fbU_at hB549 hg570 (fun hlt => by rcases hO.sM with hq | hq; exact hq; omega)
          have hk587 := hk553.kept hg570 (by simp; omega)
          have hk588 := hk557.kept hg570 (by simp; omega)
          have hk589 := hk558.kept hg570 (by simp; omega)
          exact ⟨hB586, hk587, hk588, hk589⟩
         rintro _ w567 a566 ⟨hm568, hz569, hg570⟩ h566
         have hF576 := hF497.blk hk483 (by decide) hg509
         have hF577 := hF576.blk hk507' (by decide) hg520
         have hF578 := hF577.blk hk518' (by decide) hg527
         have hF579 := hF578.new hg530
         have hr580 := row_kept_at hA495.1 hg509 (own_neT hA495.1 hk483 (by decide))
         have hr581 := row_kept_at hr580 hg520 (own_neT hr580 hk507' (by decide))
         have hr582 := row_kept_at hr581 hg527 (own_neT hr581 hk518' (by decide))
         have hr583 := row_kept_new hr582 hg530
         have hF575 := Fam.put (u := (f493.1)) (l := f493.2.1) (sf := (f493.2.2.1 + kp266)) (b0 := true) hF579 hf494 hr583 rfl
         have hz584 := hg570.size
         have hl585 := hm568.lt
         refine dr_done (by kernel_rfl) ?_
         refine co_then ?_
         refine co_reg ?_
         refine pk0 (v := .bool true) h566 rfl fun a586 h586 => ?_; clear h566
         refine pk0 (v := .bool true) h586 rfl fun a587 h587 => ?_; clear h586
         refine pk0 (v := .int .i64 kp266) h587 rfl fun a588 h588 => ?_; clear h587
         refine pk0 (v := pt N249 1) h588 rfl fun a589 h589 => ?_; clear h588
         have hk590 := hk557.kept hg570 (by simp; omega)
         refine pk (v := .int .i64 y244.2) h589 rfl (rn_load1 rfl rfl Tryd.isAgg3 (hk590.cell rfl)) fun a591 h591 => ?_; clear h589
         refine pk0 (v := .bool (kp266 == y244.2)) h591 rfl fun a592 h592 => ?_; clear h591
         refine pk0 (v := .bool (kp266 == y244.2)) h592 rfl fun a593 h593 => ?_; clear h592
         refine pk0 (v := .bool (kp266 == y244.2)) h593 rfl fun a594 h594 => ?_; clear h593
         refine pl_nil ?_
         refine co_blockN ?_
         refine co_then ?_
         refine co_reg ?_
         refine pk (v := .int .i64 ((i + 1 : Nat) : Int)) h594 rfl (rn_arith' rfl rfl rfl rfl rfl rfl (IntWalk.i64_in _ (by omega)) (by omega)) fun a595 h595 => ?_; clear h594
         refine pk0 (v := .int .i64 ((i + 1 : Nat) : Int)) h595 rfl fun a596 h596 => ?_; clear h595
         refine pl_nil ?_
         refine co_then ?_
         refine ⟨(s.ps.length - (i + 1)), by omega, ?_⟩
         have hX' := crRun_at hX hy244
         have hrl' : ∀ k, ((fun b => if b = y244.1 then some (f493.1, f493.2.1, f493.2.2.1 + kp266, true) else g1 b) k).map (·.2) = (crStep X y244).2.2 k := by
           rw [← cr_p hkp267 (by first | exact .inl (by omega) | exact .inr ⟨by omega, by assumption⟩), ← hgf499]; exact putF_eq hrl
         have hr597 := row_kept_new hr487 hg482
         have hr598 := row_kept_at hr597 hg509 (ha486)
         have hr599 := row_kept_at hr598 hg520 (ha486)
         have hr600 := row_kept_at hr599 hg527 (ha486)
         have hr601 := row_kept_new hr600 hg530
         have hr602 := row_kept_at hr601 hg570 (hM574.row hr601)
         have hF603 := hF575.map hM574 hg570
         have hB604 := fbU_at hB549 hg570 (fun hlt => by rcases hO.sM with hq | hq; exact hq; omega)
         have hk605 := hk553.kept hg570 (by simp; omega)
         exact ⟨i + 1, (crStep X y244), (fun b => if b = y244.1 then some (f493.1, f493.2.1, f493.2.2.1 + kp266, true) else g1 b), c1 + 1, h596.sub ⟨rfl, (slot_eq rfl (congrArg (Value.int .i64) (by first | exact cr_l (by assumption) | assumption))), (slot_eq rfl (congrArg Value.bool (by first | rfl | exact cr_wf (by assumption) | exact cr_w (by assumption) (by assumption)))), rfl, rfl, rfl, trivial⟩, rfl, by omega, by omega, by first | exact hX' | rfl, by first | exact hrl' | exact hO.rel, (fun_eq hm568 (by first | rfl | (funext b; rfl)) (by omega)), hr602, hF603, hB604, hk605⟩
    ·
     rw [hc278] at h277
     have hp606 : kp266 > 0 := of_decide_eq_true hc278
     clear hc278
     refine psk h277 rfl fun a607 h607 => ?_; clear h277
     refine psk h607 rfl fun a608 h608 => ?_; clear h607
     refine psk h608 rfl fun a609 h609 => ?_; clear h608
     refine psk h609 rfl fun a610 h610 => ?_; clear h609
     refine psk h610 rfl fun a611 h611 => ?_; clear h610
     refine psk h611 rfl fun a612 h612 => ?_; clear h611
     refine pk0 (v := .bool true) h612 rfl fun a613 h613 => ?_; clear h612
     refine pl_nil ?_
     refine co_then ?_
     refine co_true h613 rfl ?_
     refine co_seq ?_
     refine dr_gen (fun x => But (S) w0 x ∧ Blk x d 66 #[.bool true, .map (some M), pv, .int .i64 s.ser, .int .i64 s.boots] ∧ Blk x N249 74 #[.int .i64 y244.1, .int .i64 y244.2]) (by kernel_rfl) (fun w614 hg615 => ?_) (fun w614 hg615 => ?_)
     ·
      have hz616 := hg615.size
      have hB617 := fbU_new hB280 hg615
      have hk618 := hk282.kept hg615 (by simp)
      have hk619 := hk259'.kept hg615 (by simp)
      exact ⟨hB617, hk618, hk619⟩
     have hz620 := hg615.size
     have hB621 := fbU_new hB280 hg615
     have hk622 := hk282.kept hg615 (by simp)
     have hk623 := hk259'.kept hg615 (by simp)
     refine dk0 0 (v := pt d 0) h613 rfl rfl ⟨hB621, hk622, hk623⟩ fun a624 h624 => ?_; clear h613
     refine dk0 1 (v := pt d 0) h624 rfl rfl ⟨hB621, hk622, hk623⟩ fun a625 h625 => ?_; clear h624
     refine dk0 2 (v := pt d 1) h625 rfl rfl ⟨hB621, hk622, hk623⟩ fun a626 h626 => ?_; clear h625
     refine dk 3 (v := .map (some M)) h626 rfl rfl ⟨hB621, hk622, hk623⟩ (fun x hx => (rn_load1 rfl rfl Tryd.isAgg63 (hx.2.1.cell rfl))) fun a627 h627 => ?_; clear h626
     refine dk0 4 (v := pt N249 0) h627 rfl rfl ⟨hB621, hk622, hk623⟩ fun a628 h628 => ?_; clear h627
     refine dk 5 (v := .int .i64 y244.1) h628 rfl rfl ⟨hB621, hk622, hk623⟩ (fun x hx => (rn_load1 rfl rfl Tryd.isAgg3 (hx.2.2.cell rfl))) fun a629 h629 => ?_; clear h628
     refine dr_many [6, 7] (by kernel_rfl) (by simp) ⟨?_, ?_, trivial⟩
     ·
      have hF633 := hF288.new hg615
      have hM638 := hM284.kept hg615 (by simp)
      obtain ⟨f630, hf631⟩ : ∃ z, (g1 y244.1).getD fz = z := ⟨_, rfl⟩
      have hA632 := hF633.at hf631
      have hl634 := sl_len (row_sl hA632.1 u8E_len)
      have hgf635 := getF_eq hrl hf631
      have hgl636 : f630.2.1.length = (getF X.2.2 y244.1).1.length := by rw [hgf635]
      have hgs637 : f630.2.2.1 = (getF X.2.2 y244.1).2.1 := by rw [hgf635]
      refine dr_opVal (i := 6) (v := .agg #[f630.1, .int .i64 f630.2.2.1, .bool f630.2.2.2]) h629 rfl rfl rfl rfl (by kernel_rfl) rfl (rn_lookO (a := y244.1) (f := f630) (intKL Tryd.underlying3) rfl rfl rfl Tryd.underlying63 filez hM638 hf631) ⟨hB621, hk622, hk623⟩ (fun a639 h639 => ?_); clear h629
      refine d1 7 h639 rfl rfl (op_new (v := fun N => pt N 0) (T := 77) (cs := #[.slice none 0 0, .int .i64 0, .bool false]) (by kernel_rfl) (by kernel_rfl) (by kernel_rfl)) ?_ ?_; clear h639
      ·
       rintro _ w641 ⟨N642, rfl, hN645, hz646, hk644, hg643⟩
       have hr648 := row_kept_new hr286 hg615
       have ha647 := row_fresh hr648 hN645
       have hu649 := row_under hr648 hN645
       have ha650 := row_fresh hA632.1 hN645
       have hu651 := row_under hA632.1 hN645
       have hz652 := hg643.size
       have hB653 := fbU_new hB621 hg643
       have hk654 := hk622.kept hg643 (by simp)
       have hk655 := hk623.kept hg643 (by simp)
       exact ⟨hB653, hk654, hk655⟩
      rintro _ w641 a640 ⟨N642, rfl, hN645, hz646, hk644, hg643⟩ h640
      have hr648 := row_kept_new hr286 hg615
      have ha647 := row_fresh hr648 hN645
      have hu649 := row_under hr648 hN645
      have ha650 := row_fresh hA632.1 hN645
      have hu651 := row_under hA632.1 hN645
      have hz652 := hg643.size
      try dsimp only at h640
      have hB653 := fbU_new hB621 hg643
      have hk654 := hk622.kept hg643 (by simp)
      have hk655 := hk623.kept hg643 (by simp)
      have hr661 := row_kept_new hA632.1 hg643
      refine d1D 8 h640 rfl rfl (op_storeN rfl rfl rfl (all_cons (row_one hr661) (all_cons rfl (all_cons rfl all_nil))) (by kernel_rfl) hk644 rfl) ?_ ?_; clear h640
      ·
       rintro _ w657 ⟨hk658, hz659, hg660⟩
       have hk658' : Blk w657 N642 77 #[f630.1, .int .i64 f630.2.2.1, .bool f630.2.2.2] := hk658; clear hk658
       have hz662 := hg660.size
       have hB663 := fbU_at hB653 hg660 (fun hlt => absurd hlt (by omega))
       have hk664 := hk654.kept hg660 (by simp; omega)
       have hk665 := hk655.kept hg660 (by simp; omega)
       exact ⟨hB663, hk664, hk665⟩
      rintro _ w657 a656 ⟨hk658, hz659, hg660⟩ h656
      have hk658' : Blk w657 N642 77 #[f630.1, .int .i64 f630.2.2.1, .bool f630.2.2.2] := hk658; clear hk658
      have hz662 := hg660.size
      refine dr_done (by kernel_rfl) ?_
      refine co_then ?_
      refine co_seq ?_
      refine co_reg ?_
      refine pk0 (v := pt N642 1) h656 rfl fun a663 h663 => ?_; clear h656
      refine pk (v := .int .i64 f630.2.2.1) h663 rfl (rn_load1 rfl rfl Tryd.isAgg3 (hk658'.cell rfl)) fun a664 h664 => ?_; clear h663
      refine pk0 (v := .int .i64 kp266) h664 rfl fun a665 h665 => ?_; clear h664
      refine pk (v := .int .i64 (f630.2.2.1 + kp266)) h665 rfl (rn_arith rfl rfl rfl rfl rfl rfl (IntWalk.i64_in _ (by omega))) fun a666 h666 => ?_; clear h665
      refine pk0 (v := pt N642 1) h666 rfl fun a667 h667 => ?_; clear h666
      refine pwD h667 rfl (op_store1 rfl rfl rfl rfl Tryd.sizeOf3 hk658' rfl) ?_; clear h667
      rintro _ w669 a668 ⟨hk670, hz671, hg672⟩ h668
      have hk670' : Blk w669 N642 77 #[f630.1, .int .i64 (f630.2.2.1 + kp266), .bool f630.2.2.2] := hk670; clear hk670
      have hz673 := hg672.size
      refine pk0 (v := pt N642 2) h668 rfl fun a674 h674 => ?_; clear h668
      refine pwD h674 rfl (op_store1 rfl rfl rfl rfl Tryd.sizeOf4 hk670' rfl) ?_; clear h674
      rintro _ w676 a675 ⟨hk677, hz678, hg679⟩ h675
      have hk677' : Blk w676 N642 77 #[f630.1, .int .i64 (f630.2.2.1 + kp266), .bool true] := hk677; clear hk677
      have hz680 := hg679.size
      refine pl_nil ?_
      refine co_then ?_
      refine dr_gen (fun x => But (S) w0 x ∧ Blk x d 66 #[.bool true, .map (some M), pv, .int .i64 s.ser, .int .i64 s.boots] ∧ Blk x N249 74 #[.int .i64 y244.1, .int .i64 y244.2] ∧ Blk x N642 77 #[f630.1, .int .i64 (f630.2.2.1 + kp266), .bool true]) (by kernel_rfl) (fun w681 hg682 => ?_) (fun w681 hg682 => ?_)
      ·
       have hz683 := hg682.size
       have hB684 := fbU_at hB653 hg660 (fun hlt => absurd hlt (by omega))
       have hB685 := fbU_at hB684 hg672 (fun hlt => absurd hlt (by omega))
       have hB686 := fbU_at hB685 hg679 (fun hlt => absurd hlt (by omega))
       have hB687 := fbU_new hB686 hg682
       have hk688 := hk654.kept hg660 (by simp; omega)
       have hk689 := hk688.kept hg672 (by simp; omega)
       have hk690 := hk689.kept hg679 (by simp; omega)
       have hk691 := hk690.kept hg682 (by simp)
       have hk692 := hk655.kept hg660 (by simp; omega)
       have hk693 := hk692.kept hg672 (by simp; omega)
       have hk694 := hk693.kept hg679 (by simp; omega)
       have hk695 := hk694.kept hg682 (by simp)
       have hk696 := hk677'.kept hg682 (by simp)
       exact ⟨hB687, hk691, hk695, hk696⟩
      have hz697 := hg682.size
      have hB698 := fbU_at hB653 hg660 (fun hlt => absurd hlt (by omega))
      have hB699 := fbU_at hB698 hg672 (fun hlt => absurd hlt (by omega))
      have hB700 := fbU_at hB699 hg679 (fun hlt => absurd hlt (by omega))
      have hB701 := fbU_new hB700 hg682
      have hk702 := hk654.kept hg660 (by simp; omega)
      have hk703 := hk702.kept hg672 (by simp; omega)
      have hk704 := hk703.kept hg679 (by simp; omega)
      have hk705 := hk704.kept hg682 (by simp)
      have hk706 := hk655.kept hg660 (by simp; omega)
      have hk707 := hk706.kept hg672 (by simp; omega)
      have hk708 := hk707.kept hg679 (by simp; omega)
      have hk709 := hk708.kept hg682 (by simp)
      have hk710 := hk677'.kept hg682 (by simp)
      refine dk0 0 (v := pt d 0) h675 rfl rfl ⟨hB701, hk705, hk709, hk710⟩ fun a711 h711 => ?_; clear h675
      refine dk0 1 (v := pt d 0) h711 rfl rfl ⟨hB701, hk705, hk709, hk710⟩ fun a712 h712 => ?_; clear h711
      refine dk0 2 (v := pt d 1) h712 rfl rfl ⟨hB701, hk705, hk709, hk710⟩ fun a713 h713 => ?_; clear h712
      refine dk 3 (v := .map (some M)) h713 rfl rfl ⟨hB701, hk705, hk709, hk710⟩ (fun x hx => (rn_load1 rfl rfl Tryd.isAgg63 (hx.2.1.cell rfl))) fun a714 h714 => ?_; clear h713
      refine dk0 4 (v := pt N249 0) h714 rfl rfl ⟨hB701, hk705, hk709, hk710⟩ fun a715 h715 => ?_; clear h714
      refine dk 5 (v := .int .i64 y244.1) h715 rfl rfl ⟨hB701, hk705, hk709, hk710⟩ (fun x hx => (rn_load1 rfl rfl Tryd.isAgg3 (hx.2.2.1.cell rfl))) fun a716 h716 => ?_; clear h715
      refine dk 6 (v := .agg #[f630.1, .int .i64 (f630.2.2.1 + kp266), .bool true]) h716 rfl rfl ⟨hB701, hk705, hk709, hk710⟩ (fun x hx => (rn_loadN rfl rfl Tryd.underlying77 rfl (by kernel_rfl) hx.2.2.2.all)) fun a717 h717 => ?_; clear h716
      have hM723 := hM638.kept hg643 (by simp)
      have hM724 := hM723.kept hg660 (by simp; omega)
      have hM725 := hM724.kept hg672 (by simp; omega)
      have hM726 := hM725.kept hg679 (by simp; omega)
      have hM727 := hM726.kept hg682 (by simp)
      refine d1D 7 h717 rfl rfl (op_updateO (a := y244.1) (v := (f630.1, f630.2.1, f630.2.2.1 + kp266, true)) (intKL Tryd.underlying3) rfl rfl rfl rfl Tryd.underlying63 hM727) ?_ ?_; clear h717
      ·
       rintro _ w719 ⟨hm720, hz721, hg722⟩
       have hF729 := hF633.new hg643
       have hF730 := hF729.blk hk644 (by decide) hg660
       have hF731 := hF730.blk hk658' (by decide) hg672
       have hF732 := hF731.blk hk670' (by decide) hg679
       have hF733 := hF732.new hg682
       have hr734 := row_kept_at hr661 hg660 (ha650)
       have hr735 := row_kept_at hr734 hg672 (ha650)
       have hr736 := row_kept_at hr735 hg679 (ha650)
       have hr737 := row_kept_new hr736 hg682
       have hF728 := Fam.put (u := (f630.1)) (l := f630.2.1) (sf := (f630.2.2.1 + kp266)) (b0 := true) hF733 hf631 hr737 rfl
       have hz738 := hg722.size
       have hl739 := hm720.lt
       have hB740 := fbU_at hB701 hg722 (fun hlt => by rcases hO.sM with hq | hq; exact hq; omega)
       have hk741 := hk705.kept hg722 (by simp; omega)
       have hk742 := hk709.kept hg722 (by simp; omega)
       have hk743 := hk710.kept hg722 (by simp; omega)
       exact ⟨hB740, hk741, hk742, hk743⟩
      rintro _ w719 a718 ⟨hm720, hz721, hg722⟩ h718
      have hF729 := hF633.new hg643
      have hF730 := hF729.blk hk644 (by decide) hg660
      have hF731 := hF730.blk hk658' (by decide) hg672
      have hF732 := hF731.blk hk670' (by decide) hg679
      have hF733 := hF732.new hg682
      have hr734 := row_kept_at hr661 hg660 (ha650)
      have hr735 := row_kept_at hr734 hg672 (ha650)
      have hr736 := row_kept_at hr735 hg679 (ha650)
      have hr737 := row_kept_new hr736 hg682
      have hF728 := Fam.put (u := (f630.1)) (l := f630.2.1) (sf := (f630.2.2.1 + kp266)) (b0 := true) hF733 hf631 hr737 rfl
      have hz738 := hg722.size
      have hl739 := hm720.lt
      refine dr_done (by kernel_rfl) ?_
      refine co_then ?_
      refine co_reg ?_
      refine pk0 (v := .bool X.2.1) h718 rfl fun a740 h740 => ?_; clear h718
      refine pk0 (v := .bool X.2.1) h740 rfl fun a741 h741 => ?_; clear h740
      have hB743 := fbU_at hB701 hg722 (fun hlt => by rcases hO.sM with hq | hq; exact hq; omega)
      have hr744 := row_kept_new hr648 hg643
      have hr745 := row_kept_at hr744 hg660 (ha647)
      have hr746 := row_kept_at hr745 hg672 (ha647)
      have hr747 := row_kept_at hr746 hg679 (ha647)
      have hr748 := row_kept_new hr747 hg682
      have hr749 := row_kept_at hr748 hg722 (hM727.row hr748)
      cases hc742 : (X.2.1)
      ·
       rw [hc742] at h741
       refine psk h741 rfl fun a750 h750 => ?_; clear h741
       refine psk h750 rfl fun a751 h751 => ?_; clear h750
       refine psk h751 rfl fun a752 h752 => ?_; clear h751
       refine psk h752 rfl fun a753 h753 => ?_; clear h752
       refine pk0 (v := .bool false) h753 rfl fun a754 h754 => ?_; clear h753
       refine pk0 (v := .bool false) h754 rfl fun a755 h755 => ?_; clear h754
       refine pl_nil ?_
       refine co_blockN ?_
       refine co_then ?_
       refine co_reg ?_
       refine pk (v := .int .i64 ((i + 1 : Nat) : Int)) h755 rfl (rn_arith' rfl rfl rfl rfl rfl rfl (IntWalk.i64_in _ (by omega)) (by omega)) fun a756 h756 => ?_; clear h755
       refine pk0 (v := .int .i64 ((i + 1 : Nat) : Int)) h756 rfl fun a757 h757 => ?_; clear h756
       refine pl_nil ?_
       refine co_then ?_
       refine ⟨(s.ps.length - (i + 1)), by omega, ?_⟩
       have hX' := crRun_at hX hy244
       have hrl' : ∀ k, ((fun b => if b = y244.1 then some (f630.1, f630.2.1, f630.2.2.1 + kp266, true) else g1 b) k).map (·.2) = (crStep X y244).2.2 k := by
         rw [← cr_p hkp267 (by first | exact .inl (by omega) | exact .inr ⟨by omega, by assumption⟩), ← hgf635]; exact putF_eq hrl
       have hF758 := hF728.map hM727 hg722
       have hk759 := hk705.kept hg722 (by simp; omega)
       exact ⟨i + 1, (crStep X y244), (fun b => if b = y244.1 then some (f630.1, f630.2.1, f630.2.2.1 + kp266, true) else g1 b), c1 + 1, h757.sub ⟨rfl, (slot_eq rfl (congrArg (Value.int .i64) (by first | exact cr_l (by assumption) | assumption))), (slot_eq rfl (congrArg Value.bool (by first | rfl | exact cr_wf (by assumption) | exact cr_w (by assumption) (by assumption)))), rfl, rfl, rfl, trivial⟩, rfl, by omega, by omega, by first | exact hX' | rfl, by first | exact hrl' | exact hO.rel, (fun_eq hm720 (by first | rfl | (funext b; rfl)) (by omega)), hr749, hF758, hB743, hk759⟩
      ·
       rw [hc742] at h741
       refine pk0 (v := .int .i64 kp266) h741 rfl fun a760 h760 => ?_; clear h741
       refine pk0 (v := pt N249 1) h760 rfl fun a761 h761 => ?_; clear h760
       have hk762 := hk709.kept hg722 (by simp; omega)
       refine pk (v := .int .i64 y244.2) h761 rfl (rn_load1 rfl rfl Tryd.isAgg3 (hk762.cell rfl)) fun a763 h763 => ?_; clear h761
       refine pk0 (v := .bool (kp266 == y244.2)) h763 rfl fun a764 h764 => ?_; clear h763
       refine pk0 (v := .bool (kp266 == y244.2)) h764 rfl fun a765 h765 => ?_; clear h764
       refine pk0 (v := .bool (kp266 == y244.2)) h765 rfl fun a766 h766 => ?_; clear h765
       refine pl_nil ?_
       refine co_blockN ?_
       refine co_then ?_
       refine co_reg ?_
       refine pk (v := .int .i64 ((i + 1 : Nat) : Int)) h766 rfl (rn_arith' rfl rfl rfl rfl rfl rfl (IntWalk.i64_in _ (by omega)) (by omega)) fun a767 h767 => ?_; clear h766
       refine pk0 (v := .int .i64 ((i + 1 : Nat) : Int)) h767 rfl fun a768 h768 => ?_; clear h767
       refine pl_nil ?_
       refine co_then ?_
       refine ⟨(s.ps.length - (i + 1)), by omega, ?_⟩
       have hX' := crRun_at hX hy244
       have hrl' : ∀ k, ((fun b => if b = y244.1 then some (f630.1, f630.2.1, f630.2.2.1 + kp266, true) else g1 b) k).map (·.2) = (crStep X y244).2.2 k := by
         rw [← cr_p hkp267 (by first | exact .inl (by omega) | exact .inr ⟨by omega, by assumption⟩), ← hgf635]; exact putF_eq hrl
       have hF769 := hF728.map hM727 hg722
       have hk770 := hk705.kept hg722 (by simp; omega)
       exact ⟨i + 1, (crStep X y244), (fun b => if b = y244.1 then some (f630.1, f630.2.1, f630.2.2.1 + kp266, true) else g1 b), c1 + 1, h768.sub ⟨rfl, (slot_eq rfl (congrArg (Value.int .i64) (by first | exact cr_l (by assumption) | assumption))), (slot_eq rfl (congrArg Value.bool (by first | rfl | exact cr_wf (by assumption) | exact cr_w (by assumption) (by assumption)))), rfl, rfl, rfl, trivial⟩, rfl, by omega, by omega, by first | exact hX' | rfl, by first | exact hrl' | exact hO.rel, (fun_eq hm720 (by first | rfl | (funext b; rfl)) (by omega)), hr749, hF769, hB743, hk770⟩
     ·
      refine dr_op (i := 7) h629 rfl rfl rfl rfl (op_new (v := fun N => pt N 0) (T := 77) (cs := #[.slice none 0 0, .int .i64 0, .bool false]) (by kernel_rfl) (by kernel_rfl) (by kernel_rfl)) ?_ ?_; clear h629
      ·
       rintro _ w772 ⟨N773, rfl, hN776, hz777, hk775, hg774⟩
       have hr779 := row_kept_new hr286 hg615
       have ha778 := row_fresh hr779 hN776
       have hu780 := row_under hr779 hN776
       have hz781 := hg774.size
       have hB782 := fbU_new hB621 hg774
       have hk783 := hk622.kept hg774 (by simp)
       have hk784 := hk623.kept hg774 (by simp)
       exact ⟨hB782, hk783, hk784⟩
      rintro _ w772 a771 ⟨N773, rfl, hN776, hz777, hk775, hg774⟩ h771
      have hr779 := row_kept_new hr286 hg615
      have ha778 := row_fresh hr779 hN776
      have hu780 := row_under hr779 hN776
      have hz781 := hg774.size
      try dsimp only at h771
      have hB782 := fbU_new hB621 hg774
      have hk783 := hk622.kept hg774 (by simp)
      have hk784 := hk623.kept hg774 (by simp)
      refine dr_many [6] (by kernel_rfl) (by simp) ⟨?_, trivial⟩
      ·
       have hF788 := hF288.new hg615
       have hF789 := hF788.new hg774
       have hM794 := hM284.kept hg615 (by simp)
       have hM795 := hM794.kept hg774 (by simp)
       obtain ⟨f785, hf786⟩ : ∃ z, (g1 y244.1).getD fz = z := ⟨_, rfl⟩
       have hA787 := hF789.at hf786
       have hl790 := sl_len (row_sl hA787.1 u8E_len)
       have hgf791 := getF_eq hrl hf786
       have hgl792 : f785.2.1.length = (getF X.2.2 y244.1).1.length := by rw [hgf791]
       have hgs793 : f785.2.2.1 = (getF X.2.2 y244.1).2.1 := by rw [hgf791]
       refine dr_opVal (i := 6) (v := .agg #[f785.1, .int .i64 f785.2.2.1, .bool f785.2.2.2]) h771 rfl rfl rfl rfl (by kernel_rfl) rfl (rn_lookO (a := y244.1) (f := f785) (intKL Tryd.underlying3) rfl rfl rfl Tryd.underlying63 filez hM795 hf786) ⟨hB782, hk783, hk784⟩ (fun a796 h796 => ?_); clear h771
       refine d1D 8 h796 rfl rfl (op_storeN rfl rfl rfl (all_cons (row_one hA787.1) (all_cons rfl (all_cons rfl all_nil))) (by kernel_rfl) hk775 rfl) ?_ ?_; clear h796
       ·
        rintro _ w798 ⟨hk799, hz800, hg801⟩
        have hk799' : Blk w798 N773 77 #[f785.1, .int .i64 f785.2.2.1, .bool f785.2.2.2] := hk799; clear hk799
        have hz802 := hg801.size
        have hB803 := fbU_at hB782 hg801 (fun hlt => absurd hlt (by omega))
        have hk804 := hk783.kept hg801 (by simp; omega)
        have hk805 := hk784.kept hg801 (by simp; omega)
        exact ⟨hB803, hk804, hk805⟩
       rintro _ w798 a797 ⟨hk799, hz800, hg801⟩ h797
       have hk799' : Blk w798 N773 77 #[f785.1, .int .i64 f785.2.2.1, .bool f785.2.2.2] := hk799; clear hk799
       have hz802 := hg801.size
       refine dr_done (by kernel_rfl) ?_
       refine co_then ?_
       refine co_seq ?_
       refine co_reg ?_
       refine pk0 (v := pt N773 1) h797 rfl fun a803 h803 => ?_; clear h797
       refine pk (v := .int .i64 f785.2.2.1) h803 rfl (rn_load1 rfl rfl Tryd.isAgg3 (hk799'.cell rfl)) fun a804 h804 => ?_; clear h803
       refine pk0 (v := .int .i64 kp266) h804 rfl fun a805 h805 => ?_; clear h804
       refine pk (v := .int .i64 (f785.2.2.1 + kp266)) h805 rfl (rn_arith rfl rfl rfl rfl rfl rfl (IntWalk.i64_in _ (by omega))) fun a806 h806 => ?_; clear h805
       refine pk0 (v := pt N773 1) h806 rfl fun a807 h807 => ?_; clear h806
       refine pwD h807 rfl (op_store1 rfl rfl rfl rfl Tryd.sizeOf3 hk799' rfl) ?_; clear h807
       rintro _ w809 a808 ⟨hk810, hz811, hg812⟩ h808
       have hk810' : Blk w809 N773 77 #[f785.1, .int .i64 (f785.2.2.1 + kp266), .bool f785.2.2.2] := hk810; clear hk810
       have hz813 := hg812.size
       refine pk0 (v := pt N773 2) h808 rfl fun a814 h814 => ?_; clear h808
       refine pwD h814 rfl (op_store1 rfl rfl rfl rfl Tryd.sizeOf4 hk810' rfl) ?_; clear h814
       rintro _ w816 a815 ⟨hk817, hz818, hg819⟩ h815
       have hk817' : Blk w816 N773 77 #[f785.1, .int .i64 (f785.2.2.1 + kp266), .bool true] := hk817; clear hk817
       have hz820 := hg819.size
       refine pl_nil ?_
       refine co_then ?_
       refine dr_gen (fun x => But (S) w0 x ∧ Blk x d 66 #[.bool true, .map (some M), pv, .int .i64 s.ser, .int .i64 s.boots] ∧ Blk x N249 74 #[.int .i64 y244.1, .int .i64 y244.2] ∧ Blk x N773 77 #[f785.1, .int .i64 (f785.2.2.1 + kp266), .bool true]) (by kernel_rfl) (fun w821 hg822 => ?_) (fun w821 hg822 => ?_)
       ·
        have hz823 := hg822.size
        have hB824 := fbU_at hB782 hg801 (fun hlt => absurd hlt (by omega))
        have hB825 := fbU_at hB824 hg812 (fun hlt => absurd hlt (by omega))
        have hB826 := fbU_at hB825 hg819 (fun hlt => absurd hlt (by omega))
        have hB827 := fbU_new hB826 hg822
        have hk828 := hk783.kept hg801 (by simp; omega)
        have hk829 := hk828.kept hg812 (by simp; omega)
        have hk830 := hk829.kept hg819 (by simp; omega)
        have hk831 := hk830.kept hg822 (by simp)
        have hk832 := hk784.kept hg801 (by simp; omega)
        have hk833 := hk832.kept hg812 (by simp; omega)
        have hk834 := hk833.kept hg819 (by simp; omega)
        have hk835 := hk834.kept hg822 (by simp)
        have hk836 := hk817'.kept hg822 (by simp)
        exact ⟨hB827, hk831, hk835, hk836⟩
       have hz837 := hg822.size
       have hB838 := fbU_at hB782 hg801 (fun hlt => absurd hlt (by omega))
       have hB839 := fbU_at hB838 hg812 (fun hlt => absurd hlt (by omega))
       have hB840 := fbU_at hB839 hg819 (fun hlt => absurd hlt (by omega))
       have hB841 := fbU_new hB840 hg822
       have hk842 := hk783.kept hg801 (by simp; omega)
       have hk843 := hk842.kept hg812 (by simp; omega)
       have hk844 := hk843.kept hg819 (by simp; omega)
       have hk845 := hk844.kept hg822 (by simp)
       have hk846 := hk784.kept hg801 (by simp; omega)
       have hk847 := hk846.kept hg812 (by simp; omega)
       have hk848 := hk847.kept hg819 (by simp; omega)
       have hk849 := hk848.kept hg822 (by simp)
       have hk850 := hk817'.kept hg822 (by simp)
       refine dk0 0 (v := pt d 0) h815 rfl rfl ⟨hB841, hk845, hk849, hk850⟩ fun a851 h851 => ?_; clear h815
       refine dk0 1 (v := pt d 0) h851 rfl rfl ⟨hB841, hk845, hk849, hk850⟩ fun a852 h852 => ?_; clear h851
       refine dk0 2 (v := pt d 1) h852 rfl rfl ⟨hB841, hk845, hk849, hk850⟩ fun a853 h853 => ?_; clear h852
       refine dk 3 (v := .map (some M)) h853 rfl rfl ⟨hB841, hk845, hk849, hk850⟩ (fun x hx => (rn_load1 rfl rfl Tryd.isAgg63 (hx.2.1.cell rfl))) fun a854 h854 => ?_; clear h853
       refine dk0 4 (v := pt N249 0) h854 rfl rfl ⟨hB841, hk845, hk849, hk850⟩ fun a855 h855 => ?_; clear h854
       refine dk 5 (v := .int .i64 y244.1) h855 rfl rfl ⟨hB841, hk845, hk849, hk850⟩ (fun x hx => (rn_load1 rfl rfl Tryd.isAgg3 (hx.2.2.1.cell rfl))) fun a856 h856 => ?_; clear h855
       refine dk 6 (v := .agg #[f785.1, .int .i64 (f785.2.2.1 + kp266), .bool true]) h856 rfl rfl ⟨hB841, hk845, hk849, hk850⟩ (fun x hx => (rn_loadN rfl rfl Tryd.underlying77 rfl (by kernel_rfl) hx.2.2.2.all)) fun a857 h857 => ?_; clear h856
       have hM863 := hM795.kept hg801 (by simp; omega)
       have hM864 := hM863.kept hg812 (by simp; omega)
       have hM865 := hM864.kept hg819 (by simp; omega)
       have hM866 := hM865.kept hg822 (by simp)
       refine d1D 7 h857 rfl rfl (op_updateO (a := y244.1) (v := (f785.1, f785.2.1, f785.2.2.1 + kp266, true)) (intKL Tryd.underlying3) rfl rfl rfl rfl Tryd.underlying63 hM866) ?_ ?_; clear h857
       ·
        rintro _ w859 ⟨hm860, hz861, hg862⟩
        have hF868 := hF789.blk hk775 (by decide) hg801
        have hF869 := hF868.blk hk799' (by decide) hg812
        have hF870 := hF869.blk hk810' (by decide) hg819
        have hF871 := hF870.new hg822
        have hr872 := row_kept_at hA787.1 hg801 (own_neT hA787.1 hk775 (by decide))
        have hr873 := row_kept_at hr872 hg812 (own_neT hr872 hk799' (by decide))
        have hr874 := row_kept_at hr873 hg819 (own_neT hr873 hk810' (by decide))
        have hr875 := row_kept_new hr874 hg822
        have hF867 := Fam.put (u := (f785.1)) (l := f785.2.1) (sf := (f785.2.2.1 + kp266)) (b0 := true) hF871 hf786 hr875 rfl
        have hz876 := hg862.size
        have hl877 := hm860.lt
        have hB878 := fbU_at hB841 hg862 (fun hlt => by rcases hO.sM with hq | hq; exact hq; omega)
        have hk879 := hk845.kept hg862 (by simp; omega)
        have hk880 := hk849.kept hg862 (by simp; omega)
        have hk881 := hk850.kept hg862 (by simp; omega)
        exact ⟨hB878, hk879, hk880, hk881⟩
       rintro _ w859 a858 ⟨hm860, hz861, hg862⟩ h858
       have hF868 := hF789.blk hk775 (by decide) hg801
       have hF869 := hF868.blk hk799' (by decide) hg812
       have hF870 := hF869.blk hk810' (by decide) hg819
       have hF871 := hF870.new hg822
       have hr872 := row_kept_at hA787.1 hg801 (own_neT hA787.1 hk775 (by decide))
       have hr873 := row_kept_at hr872 hg812 (own_neT hr872 hk799' (by decide))
       have hr874 := row_kept_at hr873 hg819 (own_neT hr873 hk810' (by decide))
       have hr875 := row_kept_new hr874 hg822
       have hF867 := Fam.put (u := (f785.1)) (l := f785.2.1) (sf := (f785.2.2.1 + kp266)) (b0 := true) hF871 hf786 hr875 rfl
       have hz876 := hg862.size
       have hl877 := hm860.lt
       refine dr_done (by kernel_rfl) ?_
       refine co_then ?_
       refine co_reg ?_
       refine pk0 (v := .bool X.2.1) h858 rfl fun a878 h878 => ?_; clear h858
       refine pk0 (v := .bool X.2.1) h878 rfl fun a879 h879 => ?_; clear h878
       have hB881 := fbU_at hB841 hg862 (fun hlt => by rcases hO.sM with hq | hq; exact hq; omega)
       have hr882 := row_kept_new hr779 hg774
       have hr883 := row_kept_at hr882 hg801 (ha778)
       have hr884 := row_kept_at hr883 hg812 (ha778)
       have hr885 := row_kept_at hr884 hg819 (ha778)
       have hr886 := row_kept_new hr885 hg822
       have hr887 := row_kept_at hr886 hg862 (hM866.row hr886)
       cases hc880 : (X.2.1)
       ·
        rw [hc880] at h879
        refine psk h879 rfl fun a888 h888 => ?_; clear h879
        refine psk h888 rfl fun a889 h889 => ?_; clear h888
        refine psk h889 rfl fun a890 h890 => ?_; clear h889
        refine psk h890 rfl fun a891 h891 => ?_; clear h890
        refine pk0 (v := .bool false) h891 rfl fun a892 h892 => ?_; clear h891
        refine pk0 (v := .bool false) h892 rfl fun a893 h893 => ?_; clear h892
        refine pl_nil ?_
        refine co_blockN ?_
        refine co_then ?_
        refine co_reg ?_
        refine pk (v := .int .i64 ((i + 1 : Nat) : Int)) h893 rfl (rn_arith' rfl rfl rfl rfl rfl rfl (IntWalk.i64_in _ (by omega)) (by omega)) fun a894 h894 => ?_; clear h893
        refine pk0 (v := .int .i64 ((i + 1 : Nat) : Int)) h894 rfl fun a895 h895 => ?_; clear h894
        refine pl_nil ?_
        refine co_then ?_
        refine ⟨(s.ps.length - (i + 1)), by omega, ?_⟩
        have hX' := crRun_at hX hy244
        have hrl' : ∀ k, ((fun b => if b = y244.1 then some (f785.1, f785.2.1, f785.2.2.1 + kp266, true) else g1 b) k).map (·.2) = (crStep X y244).2.2 k := by
          rw [← cr_p hkp267 (by first | exact .inl (by omega) | exact .inr ⟨by omega, by assumption⟩), ← hgf791]; exact putF_eq hrl
        have hF896 := hF867.map hM866 hg862
        have hk897 := hk845.kept hg862 (by simp; omega)
        exact ⟨i + 1, (crStep X y244), (fun b => if b = y244.1 then some (f785.1, f785.2.1, f785.2.2.1 + kp266, true) else g1 b), c1 + 1, h895.sub ⟨rfl, (slot_eq rfl (congrArg (Value.int .i64) (by first | exact cr_l (by assumption) | assumption))), (slot_eq rfl (congrArg Value.bool (by first | rfl | exact cr_wf (by assumption) | exact cr_w (by assumption) (by assumption)))), rfl, rfl, rfl, trivial⟩, rfl, by omega, by omega, by first | exact hX' | rfl, by first | exact hrl' | exact hO.rel, (fun_eq hm860 (by first | rfl | (funext b; rfl)) (by omega)), hr887, hF896, hB881, hk897⟩
       ·
        rw [hc880] at h879
        refine pk0 (v := .int .i64 kp266) h879 rfl fun a898 h898 => ?_; clear h879
        refine pk0 (v := pt N249 1) h898 rfl fun a899 h899 => ?_; clear h898
        have hk900 := hk849.kept hg862 (by simp; omega)
        refine pk (v := .int .i64 y244.2) h899 rfl (rn_load1 rfl rfl Tryd.isAgg3 (hk900.cell rfl)) fun a901 h901 => ?_; clear h899
        refine pk0 (v := .bool (kp266 == y244.2)) h901 rfl fun a902 h902 => ?_; clear h901
        refine pk0 (v := .bool (kp266 == y244.2)) h902 rfl fun a903 h903 => ?_; clear h902
        refine pk0 (v := .bool (kp266 == y244.2)) h903 rfl fun a904 h904 => ?_; clear h903
        refine pl_nil ?_
        refine co_blockN ?_
        refine co_then ?_
        refine co_reg ?_
        refine pk (v := .int .i64 ((i + 1 : Nat) : Int)) h904 rfl (rn_arith' rfl rfl rfl rfl rfl rfl (IntWalk.i64_in _ (by omega)) (by omega)) fun a905 h905 => ?_; clear h904
        refine pk0 (v := .int .i64 ((i + 1 : Nat) : Int)) h905 rfl fun a906 h906 => ?_; clear h905
        refine pl_nil ?_
        refine co_then ?_
        refine ⟨(s.ps.length - (i + 1)), by omega, ?_⟩
        have hX' := crRun_at hX hy244
        have hrl' : ∀ k, ((fun b => if b = y244.1 then some (f785.1, f785.2.1, f785.2.2.1 + kp266, true) else g1 b) k).map (·.2) = (crStep X y244).2.2 k := by
          rw [← cr_p hkp267 (by first | exact .inl (by omega) | exact .inr ⟨by omega, by assumption⟩), ← hgf791]; exact putF_eq hrl
        have hF907 := hF867.map hM866 hg862
        have hk908 := hk845.kept hg862 (by simp; omega)
        exact ⟨i + 1, (crStep X y244), (fun b => if b = y244.1 then some (f785.1, f785.2.1, f785.2.2.1 + kp266, true) else g1 b), c1 + 1, h906.sub ⟨rfl, (slot_eq rfl (congrArg (Value.int .i64) (by first | exact cr_l (by assumption) | assumption))), (slot_eq rfl (congrArg Value.bool (by first | rfl | exact cr_wf (by assumption) | exact cr_w (by assumption) (by assumption)))), rfl, rfl, rfl, trivial⟩, rfl, by omega, by omega, by first | exact hX' | rfl, by first | exact hrl' | exact hO.rel, (fun_eq hm860 (by first | rfl | (funext b; rfl)) (by omega)), hr887, hF907, hB881, hk908⟩
end Go.Proofs.YtfiplhnplmadmaaDoor

/- Package disk: New, what is no disk; the disk as one object. Conditions: none. -/
namespace Go.Proofs.YtfiplhnplmadmaaDoor
open Go.RowKit Go.PlainAid
set_option linter.unusedVariables false

set_option maxRecDepth 100000 in
theorem dNew_any  (w : World)  :
    Calls Tryd.prog 10 #[] w fun e w' => ∃ (N : Nat) (M : Nat), e = .returned (pt N 0) ∧ DkP (fun _ => False) w.heap.size w' N M (.slice none 0 0) (fun _ => none) 0 ⟨fun _ => none, [], 1, 1⟩ ∧ Below w.heap.size w w' := by
 have hB0 := Below.refl w.heap.size w
 refine co_enter (n := 4) Tryd.func10 rfl rfl rfl [] rfl (fun a h0 => ?_)
 refine co_seq ?_
 refine co_reg ?_
 refine pk0 (v := .pointer none) h0 rfl fun a1 h1 => ?_; clear h0
 refine pl_nil ?_
 refine co_then ?_
 refine co_seq ?_
 refine co_reg ?_
 refine pw h1 rfl (op_makeO intK fileV (by kernel_rfl) (by kernel_rfl) rfl) ?_; clear h1
 rintro _ w3 a2 ⟨B4, rfl, hN5, hz6, hm7, hg8⟩ h2
 have hz9 := hg8.size
 have hl10 := hm7.lt
 refine pk0 (v := .agg #[.bool true, .map (some B4), .slice none 0 0, .int .i64 1, .int .i64 1]) h2 rfl fun a11 h11 => ?_; clear h2
 refine pw h11 rfl (op_new (v := fun N => pt N 0) (T := 66) (cs := #[.bool true, .map (some B4), .slice none 0 0, .int .i64 1, .int .i64 1]) (by kernel_rfl) (by kernel_rfl) (by kernel_rfl)) ?_; clear h11
 rintro _ w13 a12 ⟨N14, rfl, hN17, hz18, hk16, hg15⟩ h12
 have hz19 := hg15.size
 try dsimp only at h12
 refine pk0 (v := pt N14 0) h12 rfl fun a20 h20 => ?_; clear h12
 refine pl_nil ?_
 refine co_then ?_
 refine wp_ret ?_
 refine co_ret1 h20 rfl rfl ?_
 have hM21 := hm7.kept hg15 (by simp)
 have hB22 := hb_new hB0 hg8
 have hB23 := hb_new hB22 hg15
 exact ⟨_, _, rfl, ⟨hk16, hM21, World.ownsRow_nil _ _ _ _, Fam.none, .inr (by omega), .inr (by omega), InS.nil, fun _ => rfl⟩, hB23⟩
def TyS (w : World) (k : Nat) : Prop := (∃ cs T fr, w.heap[k]? = some (.cells cs T fr) ∧ (T = 66 ∨ T = 74 ∨ T = 5)) ∨ ∃ es cl, w.heap[k]? = some (.map es cl)
def SD (base : Nat) (w : World) (k : Nat) : Prop := base ≤ k ∧ TyS w k
/-- A type that is none of the disk's. -/
def offD (T : TypeId) : Prop := T ≠ 66 ∧ T ≠ 74 ∧ T ≠ 5
instance (T : TypeId) : Decidable (offD T) := by unfold offD; infer_instance
abbrev ButD (base : Nat) (w x : World) : Prop := But (SD base w) w x
/-- A disk that was made, of at most c files told, all of it from base on. -/
def DObj (base : Nat) (w : World) (d : Nat) (c : Nat) (s : DkS) : Prop := ∃ M pv g c', c' ≤ c ∧ DkP (fun _ => False) base w d M pv g c' s
section
variable {base : Nat} {w x : World} {d c M : Nat} {pv : Value} {g : Int → Option FileG} {s : DkS} {S : Nat → Prop} {n : Nat}
theorem row_block {B sz k : Nat} {e : TypeId} {v : Value} {xs : List Value} (h : w.ownsRow B e sz v k xs) {i : Nat} (hi : v.ownBlock = some i) : ∃ cs, w.heap[i]? = some (.cells cs e (0, 0)) := by
  rcases h.2 with ⟨rfl, _⟩ | ⟨g, c, cur, rfl, _, hh, _⟩
  · simp [Value.ownBlock] at hi
  · simp only [Value.ownBlock, Option.some.injEq] at hi; subst hi; exact ⟨_, hh⟩
theorem DkP.up (h : DkP (fun _ => False) base w d M pv g c s) : DkP (SD base w) w.heap.size w d M pv g c s := by
  have key : ∀ {B sz k : Nat} {e : TypeId} {v : Value} {xs : List Value}, w.ownsRow B e sz v k xs → (e = 66 ∨ e = 74 ∨ e = 5) → InS (fun _ => False) base v → InS (SD base w) w.heap.size v := by
    intro B sz k e v xs hr he hi i hb
    obtain ⟨cs, hc⟩ := row_block hr hb
    rcases hi i hb with q | q
    · exact absurd q id
    · exact .inl ⟨q, .inl ⟨cs, e, _, hc, he⟩⟩
  refine ⟨h.blk, h.map, h.row, ⟨fun k f hf => ⟨(h.fam.1 k f hf).1, key (h.fam.1 k f hf).1 (.inr (.inr rfl)) (h.fam.1 k f hf).2⟩, h.fam.2⟩, ?_, ?_, key h.row (.inr (.inl rfl)) h.sp, h.rel⟩
  · rcases h.sd with q | q
    · exact absurd q id
    · exact .inl ⟨q, .inl ⟨_, _, _, h.blk, .inl rfl⟩⟩
  · obtain ⟨l, ⟨es, cl, h1, _⟩, _⟩ := h.map
    rcases h.sM with q | q
    · exact absurd q id
    · exact .inl ⟨q, .inr ⟨es, cl, h1⟩⟩
theorem DkP.dn {w0 : World} (h : DkP (SD base w0) w0.heap.size w d M pv g c s) (hb : base ≤ w0.heap.size) : DkP (fun _ => False) base w d M pv g c s := by
  have key : ∀ {v : Value}, InS (SD base w0) w0.heap.size v → InS (fun _ => False) base v := fun hi i hb' => by
    rcases hi i hb' with q | q
    · exact .inr q.1
    · exact .inr (by omega)
  refine ⟨h.blk, h.map, h.row, ⟨fun k f hf => ⟨(h.fam.1 k f hf).1, key (h.fam.1 k f hf).2⟩, h.fam.2⟩, ?_, ?_, key h.sp, h.rel⟩
  · rcases h.sd with q | q
    · exact .inr q.1
    · exact .inr (by omega)
  · rcases h.sM with q | q
    · exact .inr q.1
    · exact .inr (by omega)
theorem DObj.lo (h : DObj base w d c s) : base ≤ w.heap.size := by
  obtain ⟨M, pv, g, c', _, h⟩ := h
  have h1 := h.blk.lt
  rcases h.sd with q | q
  · exact absurd q id
  · omega
theorem row_same {B sz k : Nat} {e : TypeId} {v : Value} {xs : List Value} (h : w.ownsRow B e sz v k xs) (hs : w.heap.size ≤ x.heap.size) (hk : ∀ i, v.ownBlock = some i → x.heap[i]? = w.heap[i]?) : x.ownsRow B e sz v k xs := by
  refine ⟨h.1, ?_⟩
  rcases h.2 with h1 | ⟨g, c, cur, rfl, hg, hh, h3⟩
  · exact .inl h1
  · exact .inr ⟨g, c, cur, rfl, hg, by rw [hk g rfl]; exact hh, h3⟩
/-- All that is the disk's is as it was: so is the disk. -/
theorem DObj.keep (h : DObj base w d c s) (hs : w.heap.size ≤ x.heap.size) (hk : ∀ k, TyS w k → x.heap[k]? = w.heap[k]?) : DObj base x d c s := by
  obtain ⟨M, pv, g, c', hc, h⟩ := h
  have key : ∀ {B sz k : Nat} {e : TypeId} {v : Value} {xs : List Value}, w.ownsRow B e sz v k xs → (e = 66 ∨ e = 74 ∨ e = 5) → x.ownsRow B e sz v k xs := by
    intro B sz k e v xs hr he
    refine row_same hr hs fun i hi => ?_
    obtain ⟨cs, hcs⟩ := row_block hr hi
    exact hk i (.inl ⟨cs, e, _, hcs, he⟩)
  refine ⟨M, pv, g, c', hc, ⟨?_, ?_, key h.row (.inr (.inl rfl)), ⟨fun k f hf => ⟨key (h.fam.1 k f hf).1 (.inr (.inr rfl)), (h.fam.1 k f hf).2⟩, h.fam.2⟩, h.sd, h.sM, h.sp, h.rel⟩⟩
  · have hb := h.blk
    unfold Blk at hb ⊢
    rw [hk d (.inl ⟨_, _, _, hb, .inl rfl⟩)]; exact hb
  · obtain ⟨l, ⟨es, cl, h1, h2⟩, h3⟩ := h.map
    exact ⟨l, ⟨es, cl, by rw [hk M (.inr ⟨es, cl, h1⟩)]; exact h1, h2⟩, h3⟩
theorem DObj.gr {row : Option Nat} (h : DObj base w d c s) (hg : w.grownBy x row) (hr : ∀ k, row = some k → ¬ TyS w k) : DObj base x d c s :=
  h.keep hg.size fun k hk => by
    have hlt : k < w.heap.size := by
      rcases hk with ⟨cs, T, fr, h1, _⟩ | ⟨es, cl, h1⟩
      · exact (Array.getElem?_eq_some_iff.1 h1).1
      · exact (Array.getElem?_eq_some_iff.1 h1).1
    exact hg.block k hlt (fun e => hr k e.symm hk)
theorem DObj.new (h : DObj base w d c s) (hg : w.grownBy x none) : DObj base x d c s := h.gr hg (fun k e => by cases e)
theorem DObj.call (h : DObj base w d c s) (hb : Below w.heap.size w x) : DObj base x d c s := h.new (below_grown hb)
theorem not_ty {N : Nat} {T : TypeId} {cs : Array Value} (hb : w.heap[N]? = some (.cells cs T (0, 0))) (hT : offD T) : ¬ TyS w N := by
  rintro (⟨cs', T', fr, h1, h2⟩ | ⟨es, cl, h1⟩)
  · rw [hb] at h1
    simp only [Option.some.injEq, Obj.cells.injEq] at h1
    obtain ⟨_, rfl, _⟩ := h1
    rcases h2 with q | q | q
    · exact hT.1 q
    · exact hT.2.1 q
    · exact hT.2.2 q
  · rw [hb] at h1; cases h1
theorem DObj.at {N : Nat} {T : TypeId} {cs : Array Value} (h : DObj base w d c s) (hb : Blk w N T cs) (hT : offD T) (hg : w.grownBy x (some N)) : DObj base x d c s := h.gr hg (fun k e => by cases e; exact not_ty hb hT)
theorem DObj.row {B sz k : Nat} {e : TypeId} {v : Value} {xs : List Value} (h : DObj base w d c s) (hr : w.ownsRow B e sz v k xs) (hT : offD e) (hg : w.grownBy x v.ownBlock) : DObj base x d c s :=
  h.gr hg (fun k e => by obtain ⟨cs, hc⟩ := row_block hr e; exact not_ty hc hT)
theorem rowD {B sz k : Nat} {e : TypeId} {v : Value} {xs : List Value} (hr : w.ownsRow B e sz v k xs) (hT : offD e) (hb : ButD base w x) : x.ownsRow B e sz v k xs :=
  row_same hr hb.size fun i hi => by
    obtain ⟨cs, hc⟩ := row_block hr hi
    exact hb.block i (Array.getElem?_eq_some_iff.1 hc).1 (fun h => not_ty hc hT h.2)
theorem blkD {N : Nat} {T : TypeId} {cs : Array Value} (h : Blk w N T cs) (hT : offD T) (hb : ButD base w x) : Blk x N T cs := by
  have hl := h.lt
  unfold Blk at h ⊢
  rw [hb.block N hl (fun h' => not_ty h hT h'.2)]; exact h
theorem hbD {w0 : World} (h : Below w0.heap.size w0 w) (hb : ButD w0.heap.size w x) : Below w0.heap.size w0 x := below_but h hb h.size (fun i _ h => h.1)
theorem DObj.low {b2 : Nat} (h : DkP (fun _ => False) b2 w d M pv g c s) (hb : base ≤ b2) : DObj base w d c s :=
  ⟨M, pv, g, c, Nat.le_refl _, ⟨h.blk, h.map, h.row, ⟨fun k f hf => ⟨(h.fam.1 k f hf).1, fun i hi => by rcases (h.fam.1 k f hf).2 i hi with q | q; exact absurd q id; exact .inr (by omega)⟩, h.fam.2⟩, by rcases h.sd with q | q; exact absurd q id; exact .inr (by omega), by rcases h.sM with q | q; exact absurd q id; exact .inr (by omega), fun i hi => by rcases h.sp i hi with q | q; exact absurd q id; exact .inr (by omega), h.rel⟩⟩
end
def s0D : DkS := ⟨fun _ => none, [], 1, 1⟩


theorem tNew (base : Nat) (w : World) (hb : base ≤ w.heap.size) : Calls Tryd.prog 10 #[] w fun e w' => ∃ N, e = .returned (pt N 0) ∧ DObj base w' N 0 s0D ∧ Below w.heap.size w w' :=
  (dNew_any w).mono fun e x ⟨N, M, h1, h2, h3⟩ => ⟨N, h1, DObj.low h2 hb, h3⟩
theorem tWrite {base d c : Nat} {s : DkS} (w : World) (n : Int) (t : ByteArray) (h : DObj base w d c s) (hsz : (getF s.fm n).1.length + t.size ≤ 1000000000) (hpl : s.ps.length ≤ 100000) : Calls Tryd.prog 28 #[pt d 0, .int .i64 n, .string t] w fun e w' => e = .returned (.int .i64 (wrE n)) ∧ DObj base w' d (c + 1) (wrS s n t) ∧ ButD base w w' := by
  have hlo := h.lo
  obtain ⟨M, pv, g, c', hc, hP⟩ := h
  exact (dWrite_any w (SD base w) d M pv g c' s n t w (But.refl _ _) hP.up hsz hpl).mono fun e x ⟨pv', g', c2, h1, h2, h3, h4⟩ => ⟨h1, ⟨M, pv', g', c2, by omega, h2.dn hlo⟩, h4⟩
theorem tSync {base d c : Nat} {s : DkS} (w : World) (h : DObj base w d c s) (hsb : ∀ i, 0 ≤ sumP (s.ps.take i) ∧ sumP (s.ps.take i) ≤ 1000000000000) : Calls Tryd.prog 13 #[pt d 0] w fun e w' => e = .returned (.int .i64 (sumP s.ps)) ∧ DObj base w' d (c + s.ps.length) (synS s) ∧ ButD base w w' := by
  have hlo := h.lo
  obtain ⟨M, pv, g, c', hc, hP⟩ := h
  exact (dSync_any w (SD base w) d M pv g c' s w (But.refl _ _) hP.up hsb).mono fun e x ⟨pv', g', c2, h1, h2, h3, h4⟩ => ⟨h1, ⟨M, pv', g', c2, by omega, h2.dn hlo⟩, h4⟩
theorem tData {base d c : Nat} {s : DkS} (w : World) (n : Int) (h : DObj base w d c s) : Calls Tryd.prog 27 #[pt d 0, .int .i64 n] w fun e w' => e = .returned (.string (datF s.fm n)) ∧ DObj base w' d c s ∧ ButD base w w' := by
  have hlo := h.lo
  obtain ⟨M, pv, g, c', hc, hP⟩ := h
  exact (dData_any w (SD base w) d M pv g c' s n w (But.refl _ _) hP.up).mono fun e x ⟨h1, h2, h4⟩ => ⟨h1, ⟨M, pv, g, c', by omega, h2.dn hlo⟩, h4⟩
theorem tFiles {base d c : Nat} {s : DkS} (w : World) (h : DObj base w d c s) (hc1 : c ≤ 1000000) : Calls Tryd.prog 26 #[pt d 0] w fun e w' => ∃ (ys : List Int) (u : Value), e = .returned u ∧ w'.ownsRow w.heap.size 3 1 u ys.length (ys.flatMap (intE .i64)) ∧ KeysF s.fm ys ∧ ys.length ≤ c ∧ DObj base w' d c s ∧ ButD base w w' := by
  have hlo := h.lo
  obtain ⟨M, pv, g, c', hc, hP⟩ := h
  exact (dFiles_any w (SD base w) d M pv g c' s w (But.refl _ _) hP.up (by omega)).mono fun e x ⟨ys, u, h1, h2, h3, h5, h6, h4⟩ => ⟨ys, u, h1, h2, h3, by omega, ⟨M, pv, g, c', hc, h6.dn hlo⟩, h4⟩
theorem tCrash {base d c : Nat} {s : DkS} (w : World) (n : Int) (h : DObj base w d c s) (hc1 : c ≤ 100000) (hpl : s.ps.length ≤ 100000) (hbo : 0 ≤ s.boots ∧ s.boots ≤ 1000000) (hni : -9223372036854775808 ≤ n ∧ n ≤ 9223372036854775807) (hcr : ∀ (i : Nat) (X : Int × Bool × (Int → Option FileM)) (p : PcT), crRun n s.fm (s.ps.take i) = X → s.ps[i]? = some p → 0 ≤ p.2 ∧ 0 ≤ X.1 ∧ 0 ≤ (getF X.2.2 p.1).2.1 ∧ (getF X.2.2 p.1).2.1 + p.2 ≤ 1000000000000 ∧ X.1 ≤ 9223372036854775807)
    (hfin : ∀ k, 0 ≤ (getF (crRun n s.fm s.ps).2.2 k).2.1 ∧ (getF (crRun n s.fm s.ps).2.2 k).2.1 ≤ (getF (crRun n s.fm s.ps).2.2 k).1.length) : Calls Tryd.prog 14 #[pt d 0, .int .i64 n] w fun e w' => e = .returned (.tuple #[]) ∧ DObj base w' d (2 * c + 2 * s.ps.length) (crS s n) ∧ ButD base w w' := by
  have hlo := h.lo
  obtain ⟨M, pv, g, c', hc, hP⟩ := h
  exact (dCrash_any w (SD base w) d M pv g c' s n w (But.refl _ _) hP.up (by omega) hpl hbo hni hcr hfin).mono fun e x ⟨pv', g', c2, h1, h2, h3, h4⟩ => ⟨h1, ⟨M, pv', g', c2, by omega, h2.dn hlo⟩, h4⟩

end Go.Proofs.YtfiplhnplmadmaaDoor

/- Package disk, pure: what holds of a disk's state behind writes, a sync, a crash. Conditions: none. -/
namespace Go.Proofs.YtfiplhnplmadmaaDoor
open Go.RowKit

/-- What is told of a file's pieces. -/
def sumK (ps : List PcT) (k : Int) : Int := ps.foldl (fun n p => if p.1 = k then n + p.2 else n) 0
theorem sumK_from (k : Int) : ∀ (ps : List PcT) (n : Int), ps.foldl (fun n p => if p.1 = k then n + p.2 else n) n = n + sumK ps k
  | [], n => by simp [sumK]
  | p :: r, n => by
    unfold sumK
    simp only [List.foldl_cons]
    by_cases e : p.1 = k
    · rw [if_pos e, if_pos e, sumK_from k r, sumK_from k r]; omega
    · rw [if_neg e, if_neg e, sumK_from k r, sumK_from k r]; omega
theorem sumK_cons (p : PcT) (r : List PcT) (k : Int) : sumK (p :: r) k = (if p.1 = k then p.2 else 0) + sumK r k := by
  conv => lhs; unfold sumK
  simp only [List.foldl_cons]
  by_cases e : p.1 = k
  · rw [if_pos e, if_pos e, sumK_from]; omega
  · rw [if_neg e, if_neg e, sumK_from]
theorem sumP_from : ∀ (ps : List PcT) (n : Int), ps.foldl (fun n p => n + p.2) n = n + sumP ps
  | [], n => by simp [sumP]
  | p :: r, n => by
    unfold sumP
    simp only [List.foldl_cons]
    rw [sumP_from r, sumP_from r]; omega
theorem sumP_cons (p : PcT) (r : List PcT) : sumP (p :: r) = p.2 + sumP r := by
  conv => lhs; unfold sumP
  simp only [List.foldl_cons]
  rw [sumP_from]; omega
theorem sumK_app (k : Int) : ∀ (a b : List PcT), sumK (a ++ b) k = sumK a k + sumK b k
  | [], b => by simp [sumK]
  | p :: r, b => by rw [List.cons_append, sumK_cons, sumK_cons, sumK_app k r b]; omega
theorem sumP_app : ∀ (a b : List PcT), sumP (a ++ b) = sumP a + sumP b
  | [], b => by simp [sumP]
  | p :: r, b => by rw [List.cons_append, sumP_cons, sumP_cons, sumP_app r b]; omega
theorem sumK_nn {ps : List PcT} (h : ∀ p ∈ ps, 0 ≤ p.2) (k : Int) : 0 ≤ sumK ps k := by
  induction ps with
  | nil => simp [sumK]
  | cons p r ih =>
    rw [sumK_cons]
    have h1 := h p (by simp); have h2 := ih (fun q hq => h q (by simp [hq]))
    split <;> omega
theorem sumP_nn {ps : List PcT} (h : ∀ p ∈ ps, 0 ≤ p.2) : 0 ≤ sumP ps := by
  induction ps with
  | nil => simp [sumP]
  | cons p r ih =>
    rw [sumP_cons]
    have h1 := h p (by simp); have h2 := ih (fun q hq => h q (by simp [hq]))
    omega
theorem sumP_take {ps : List PcT} (h : ∀ p ∈ ps, 0 ≤ p.2) (i : Nat) : 0 ≤ sumP (ps.take i) ∧ sumP (ps.take i) ≤ sumP ps := by
  have e : sumP ps = sumP (ps.take i) + sumP (ps.drop i) := by rw [← sumP_app, List.take_append_drop]
  have h1 := sumP_nn (ps := ps.take i) (fun p hp => h p (List.mem_of_mem_take hp))
  have h2 := sumP_nn (ps := ps.drop i) (fun p hp => h p (List.mem_of_mem_drop hp))
  omega
/-- What a crash keeps of each piece. -/
def keptL : Int → List PcT → List PcT
  | _, [] => []
  | l, p :: r => (p.1, if l < p.2 then l else p.2) :: keptL (l - if l < p.2 then l else p.2) r
theorem kept_nn : ∀ (ps : List PcT) (l : Int), 0 ≤ l → (∀ p ∈ ps, 0 ≤ p.2) → ∀ p ∈ keptL l ps, 0 ≤ p.2
  | [], _, _, _, _, hq => by cases hq
  | p :: r, l, hl, h, q, hq => by
    have h1 := h p (by simp)
    unfold keptL at hq
    rcases List.mem_cons.1 hq with rfl | hq
    · show 0 ≤ if l < p.2 then l else p.2
      split <;> omega
    · exact kept_nn r _ (by split <;> omega) (fun z hz => h z (by simp [hz])) q hq
theorem kept_le (k : Int) : ∀ (ps : List PcT) (l : Int), 0 ≤ l → (∀ p ∈ ps, 0 ≤ p.2) → sumK (keptL l ps) k ≤ sumK ps k
  | [], _, _, _ => by simp [keptL]
  | p :: r, l, hl, h => by
    have h1 := h p (by simp)
    unfold keptL
    rw [sumK_cons, sumK_cons]
    have ih := kept_le k r (l - if l < p.2 then l else p.2) (by split <;> omega) (fun z hz => h z (by simp [hz]))
    show (if p.1 = k then (if l < p.2 then l else p.2) else 0) + _ ≤ _
    have : (if p.1 = k then (if l < p.2 then l else p.2) else 0) ≤ (if p.1 = k then p.2 else 0) := by
      by_cases q : p.1 = k
      · rw [if_pos q, if_pos q]; split <;> omega
      · rw [if_neg q, if_neg q]; omega
    omega
theorem kept_sum : ∀ (ps : List PcT) (l : Int), 0 ≤ l → (∀ p ∈ ps, 0 ≤ p.2) → sumP (keptL l ps) ≤ l ∧ sumP (keptL l ps) ≤ sumP ps
  | [], l, hl, _ => by simp [keptL, sumP]; omega
  | p :: r, l, hl, h => by
    have h1 := h p (by simp)
    unfold keptL
    rw [sumP_cons, sumP_cons]
    have ih := kept_sum r (l - if l < p.2 then l else p.2) (by split <;> omega) (fun z hz => h z (by simp [hz]))
    show (if l < p.2 then l else p.2) + _ ≤ _ ∧ (if l < p.2 then l else p.2) + _ ≤ _
    split at ih <;> rename_i hq
    · rw [if_pos hq]; omega
    · rw [if_neg hq]; omega
theorem getF_put (fm : Int → Option FileM) (a : Int) (m : FileM) (k : Int) : getF (putF fm a m) k = if k = a then m else getF fm k := by
  unfold getF putF; by_cases e : k = a <;> simp [e]
/-- What a crash's run comes to. -/
theorem cr_all : ∀ (ps : List PcT) (X : Int × Bool × (Int → Option FileM)), 0 ≤ X.1 → (∀ p ∈ ps, 0 ≤ p.2) →
    (ps.foldl crStep X).1 = X.1 - sumP (keptL X.1 ps) ∧ ∀ k, (getF (ps.foldl crStep X).2.2 k).1 = (getF X.2.2 k).1 ∧ (getF (ps.foldl crStep X).2.2 k).2.1 = (getF X.2.2 k).2.1 + sumK (keptL X.1 ps) k ∧ ((getF X.2.2 k).2.2 = true → (getF (ps.foldl crStep X).2.2 k).2.2 = true)
  | [], X, _, _ => by simp [keptL, sumP, sumK]
  | p :: r, X, hX, h => by
    have h1 := h p (by simp)
    have e1 : (crStep X p).1 = X.1 - if X.1 < p.2 then X.1 else p.2 := rfl
    have e3 : (crStep X p).2.2 = if 0 < (if X.1 < p.2 then X.1 else p.2) ∨ (p.2 = 0 ∧ X.2.1 = true) then putF X.2.2 p.1 ((getF X.2.2 p.1).1, (getF X.2.2 p.1).2.1 + (if X.1 < p.2 then X.1 else p.2), true) else X.2.2 := rfl
    obtain ⟨kp, hkp⟩ : ∃ z : Int, z = if X.1 < p.2 then X.1 else p.2 := ⟨_, rfl⟩
    have hk0 : 0 ≤ kp ∧ kp ≤ X.1 := by rw [hkp]; split <;> omega
    obtain ⟨i1, i2⟩ := cr_all r (crStep X p) (by rw [e1, ← hkp]; omega) (fun z hz => h z (by simp [hz]))
    rw [List.foldl_cons]
    unfold keptL
    rw [sumP_cons]
    rw [e1] at i1 i2
    rw [← hkp] at i1 i2 e3 ⊢
    refine ⟨by rw [i1]; show _ = X.1 - (kp + _); omega, fun k => ?_⟩
    obtain ⟨j1, j2, j3⟩ := i2 k
    rw [sumK_cons]
    have hg : getF (crStep X p).2.2 k = if k = p.1 ∧ (0 < kp ∨ (p.2 = 0 ∧ X.2.1 = true)) then ((getF X.2.2 p.1).1, (getF X.2.2 p.1).2.1 + kp, true) else getF X.2.2 k := by
      rw [e3]
      by_cases hc : 0 < kp ∨ (p.2 = 0 ∧ X.2.1 = true)
      · rw [if_pos hc, getF_put]
        by_cases e : k = p.1
        · rw [if_pos e, if_pos ⟨e, hc⟩]
        · rw [if_neg e, if_neg (fun q => e q.1)]
      · rw [if_neg hc, if_neg (fun q => hc q.2)]
    rw [hg] at j1 j2 j3
    show _ ∧ _ = _ + ((if p.1 = k then kp else 0) + _) ∧ _
    by_cases e : k = p.1
    · subst e
      rw [if_pos rfl]
      by_cases hc : 0 < kp ∨ (p.2 = 0 ∧ X.2.1 = true)
      · rw [if_pos ⟨rfl, hc⟩] at j1 j2 j3
        exact ⟨j1, by rw [j2]; show (getF X.2.2 p.1).2.1 + kp + _ = _; omega, fun _ => j3 rfl⟩
      · rw [if_neg (fun q => hc q.2)] at j1 j2 j3
        exact ⟨j1, by rw [j2]; omega, j3⟩
    · rw [if_neg (fun q => e q.1)] at j1 j2 j3
      rw [if_neg (fun q => e q.symm)]
      exact ⟨j1, by rw [j2]; omega, j3⟩
def mx0 (n : Int) : Int := if n < 0 then 0 else n
theorem mx0_nn (n : Int) : 0 ≤ mx0 n := by unfold mx0; split <;> omega
theorem crRun_all {n : Int} {fm : Int → Option FileM} {ps : List PcT} (h : ∀ p ∈ ps, 0 ≤ p.2) :
    (crRun n fm ps).1 = mx0 n - sumP (keptL (mx0 n) ps) ∧ ∀ k, (getF (crRun n fm ps).2.2 k).1 = (getF fm k).1 ∧ (getF (crRun n fm ps).2.2 k).2.1 = (getF fm k).2.1 + sumK (keptL (mx0 n) ps) k ∧ ((getF fm k).2.2 = true → (getF (crRun n fm ps).2.2 k).2.2 = true) :=
  cr_all ps (mx0 n, true, fm) (mx0_nn n) h
/-- What holds of a disk's state behind m writes of at most 1048576 bytes each. -/
structure DkI (s : DkS) (m : Nat) : Prop where
  len : ∀ k, ((getF s.fm k).1.length : Int) ≤ m * 1048576
  pos : ∀ p ∈ s.ps, 0 ≤ p.2
  sum : ∀ k, (getF s.fm k).2.1 + sumK s.ps k = ((getF s.fm k).1.length : Int)
  saf : ∀ k, 0 ≤ (getF s.fm k).2.1
  tot : sumP s.ps ≤ m * 1048576
  pl : s.ps.length ≤ m
  cov : ∀ k, (s.fm k).isSome = true → (getF s.fm k).2.2 = true ∨ ∃ p ∈ s.ps, p.1 = k
theorem s0_I : DkI s0D 0 := ⟨fun k => by simp [s0D, getF, mz], fun p hp => (by cases hp), fun k => by simp [s0D, getF, mz, sumK], fun k => by simp [s0D, getF, mz], by simp [s0D, sumP], by simp [s0D], fun k h => by simp [s0D] at h⟩
theorem DkI.up {s : DkS} {m m' : Nat} (h : DkI s m) (hm : m ≤ m') : DkI s m' :=
  ⟨fun k => by have := h.len k; omega, h.pos, h.sum, h.saf, by have := h.tot; omega, by have := h.pl; omega, h.cov⟩
theorem size_bytes (t : ByteArray) : t.data.toList.length = t.size := rfl
theorem DkI.write {s : DkS} {m : Nat} (h : DkI s m) (n : Int) (t : ByteArray) (ht : t.size ≤ 1048576) : DkI (wrS s n t) (m + 1) := by
  unfold wrS
  by_cases he : wrE n = 0
  · rw [if_pos he]
    refine ⟨fun k => ?_, fun p hp => ?_, fun k => ?_, fun k => ?_, ?_, ?_, fun k hk => ?_⟩
    · have hl := h.len k
      show ((getF (putF s.fm n _) k).1.length : Int) ≤ _
      rw [getF_put]
      by_cases e : k = n
      · subst e; rw [if_pos rfl]; simp only [List.length_append, size_bytes]; omega
      · rw [if_neg e]; omega
    · rcases List.mem_append.1 hp with hp | hp
      · exact h.pos p hp
      · simp at hp; subst hp; show (0 : Int) ≤ (t.size : Int); omega
    · have hs := h.sum k
      show (getF (putF s.fm n _) k).2.1 + sumK (s.ps ++ [(n, (t.size : Int))]) k = ((getF (putF s.fm n _) k).1.length : Int)
      rw [getF_put, sumK_app, sumK_cons]
      by_cases e : k = n
      · subst e; rw [if_pos rfl, if_pos rfl]; simp only [List.length_append, size_bytes, sumK, List.foldl_nil] at *; omega
      · rw [if_neg e, if_neg (fun q => e q.symm)]; simp only [sumK, List.foldl_nil] at *; omega
    · show 0 ≤ (getF (putF s.fm n _) k).2.1
      rw [getF_put]
      by_cases e : k = n
      · rw [if_pos e]; exact h.saf n
      · rw [if_neg e]; exact h.saf k
    · have := h.tot
      show sumP (s.ps ++ [(n, (t.size : Int))]) ≤ _
      rw [sumP_app, sumP_cons]; simp only [sumP, List.foldl_nil] at *; omega
    · have := h.pl
      show (s.ps ++ [(n, (t.size : Int))]).length ≤ m + 1
      simp; omega
    · by_cases e : k = n
      · exact .inr ⟨(n, (t.size : Int)), by simp, e.symm⟩
      · have hk' : (s.fm k).isSome = true := by
          have : putF s.fm n ((getF s.fm n).1 ++ t.data.toList, (getF s.fm n).2) k = s.fm k := by unfold putF; rw [if_neg e]
          rw [← this]; exact hk
        rcases h.cov k hk' with q | ⟨p, hp, q⟩
        · left; show (getF (putF s.fm n _) k).2.2 = true; rw [getF_put, if_neg e]; exact q
        · exact .inr ⟨p, by simp [hp], q⟩
  · rw [if_neg he]; exact h.up (by omega)
theorem syn_get : ∀ (ps : List PcT) (fm : Int → Option FileM) (k : Int), (getF (synF fm ps) k).1 = (getF fm k).1 ∧ ((∃ p ∈ ps, p.1 = k) → (getF (synF fm ps) k).2 = (((getF fm k).1.length : Int), true)) ∧ ((¬ ∃ p ∈ ps, p.1 = k) → (getF (synF fm ps) k).2 = (getF fm k).2 ∧ synF fm ps k = fm k)
  | [], fm, k => by simp [synF]
  | p :: r, fm, k => by
    have e : synF fm (p :: r) = synF (putF fm p.1 ((getF fm p.1).1, ((getF fm p.1).1.length : Int), true)) r := rfl
    obtain ⟨i1, i2, i3⟩ := syn_get r (putF fm p.1 ((getF fm p.1).1, ((getF fm p.1).1.length : Int), true)) k
    rw [e]
    rw [getF_put] at i1 i2 i3
    by_cases ek : k = p.1
    · subst ek
      rw [if_pos rfl] at i1 i2 i3
      refine ⟨i1, fun _ => ?_, fun hn => absurd ⟨p, by simp, rfl⟩ hn⟩
      by_cases hr : ∃ q ∈ r, q.1 = p.1
      · exact i2 hr
      · exact (i3 hr).1
    · rw [if_neg ek] at i1 i2 i3
      refine ⟨i1, fun ⟨q, hq, e2⟩ => ?_, fun hn => ?_⟩
      · rcases List.mem_cons.1 hq with rfl | hq
        · exact absurd e2.symm ek
        · exact i2 ⟨q, hq, e2⟩
      · have h3 := i3 (fun ⟨q, hq, e2⟩ => hn ⟨q, by simp [hq], e2⟩)
        refine ⟨h3.1, h3.2.trans ?_⟩
        unfold putF; rw [if_neg ek]
theorem sumK_0 {ps : List PcT} {k : Int} (h : ¬ ∃ p ∈ ps, p.1 = k) : sumK ps k = 0 := by
  induction ps with
  | nil => simp [sumK]
  | cons p r ih =>
    rw [sumK_cons, if_neg (fun e => h ⟨p, by simp, e⟩), ih (fun ⟨q, hq, e⟩ => h ⟨q, by simp [hq], e⟩)]; rfl
/-- Behind a sync all is safe. -/
theorem DkI.sync {s : DkS} {m : Nat} (h : DkI s m) : DkI (synS s) m ∧ (∀ k, (getF (synS s).fm k).1 = (getF s.fm k).1) ∧ (∀ k, (getF (synS s).fm k).2.1 = ((getF s.fm k).1.length : Int)) ∧ ∀ k, ((synS s).fm k).isSome = true → (getF (synS s).fm k).2.2 = true := by
  have key : ∀ k, (getF (synF s.fm s.ps) k).2.1 = ((getF s.fm k).1.length : Int) := by
    intro k
    obtain ⟨i1, i2, i3⟩ := syn_get s.ps s.fm k
    by_cases hr : ∃ q ∈ s.ps, q.1 = k
    · rw [i2 hr]
    · rw [(i3 hr).1]; have := h.sum k; rw [sumK_0 hr] at this; omega
  have key1 : ∀ k, (getF (synF s.fm s.ps) k).1 = (getF s.fm k).1 := fun k => (syn_get s.ps s.fm k).1
  have key2 : ∀ k, (synF s.fm s.ps k).isSome = true → (getF (synF s.fm s.ps) k).2.2 = true := by
    intro k hk
    obtain ⟨i1, i2, i3⟩ := syn_get s.ps s.fm k
    by_cases hr : ∃ q ∈ s.ps, q.1 = k
    · rw [i2 hr]
    · rw [(i3 hr).1]
      rcases h.cov k (by rw [← (i3 hr).2]; exact hk) with q | q
      · exact q
      · exact absurd q hr
  refine ⟨⟨fun k => ?_, fun p hp => (by cases hp), fun k => ?_, fun k => ?_, ?_, ?_, fun k hk => .inl (key2 k hk)⟩, key1, key, key2⟩
  · show ((getF (synF s.fm s.ps) k).1.length : Int) ≤ _; rw [key1]; exact h.len k
  · show (getF (synF s.fm s.ps) k).2.1 + sumK [] k = ((getF (synF s.fm s.ps) k).1.length : Int); rw [key, key1]; simp [sumK]
  · show 0 ≤ (getF (synF s.fm s.ps) k).2.1; rw [key]; omega
  · show sumP [] ≤ _; simp [sumP]; omega
  · show ([] : List PcT).length ≤ m; simp
section
variable {s : DkS} {m : Nat}
theorem DkI.hsz (h : DkI s m) (hm : m ≤ 900) (n : Int) {t : ByteArray} (ht : t.size ≤ 1048576) : (getF s.fm n).1.length + t.size ≤ 1000000000 := by
  have := h.len n; omega
theorem DkI.hpl (h : DkI s m) (hm : m ≤ 900) : s.ps.length ≤ 100000 := by have := h.pl; omega
theorem DkI.hsb (h : DkI s m) (hm : m ≤ 900) (i : Nat) : 0 ≤ sumP (s.ps.take i) ∧ sumP (s.ps.take i) ≤ 1000000000000 := by
  have h1 := sumP_take h.pos i; have h2 := h.tot; omega
theorem DkI.hcr (h : DkI s m) (hm : m ≤ 900) {n : Int} (hni : -9223372036854775808 ≤ n ∧ n ≤ 9223372036854775807) (i : Nat) (X : Int × Bool × (Int → Option FileM)) (p : PcT) (hX : crRun n s.fm (s.ps.take i) = X) (hp : s.ps[i]? = some p) :
    0 ≤ p.2 ∧ 0 ≤ X.1 ∧ 0 ≤ (getF X.2.2 p.1).2.1 ∧ (getF X.2.2 p.1).2.1 + p.2 ≤ 1000000000000 ∧ X.1 ≤ 9223372036854775807 := by
  have hpos : ∀ q ∈ s.ps.take i, 0 ≤ q.2 := fun q hq => h.pos q (List.mem_of_mem_take hq)
  obtain ⟨h1, h2⟩ := crRun_all (n := n) (fm := s.fm) hpos
  rw [hX] at h1 h2
  obtain ⟨_, j2, _⟩ := h2 p.1
  have k1 := kept_sum (s.ps.take i) (mx0 n) (mx0_nn n) hpos
  have k2 := kept_le p.1 (s.ps.take i) (mx0 n) (mx0_nn n) hpos
  have k3 := sumK_nn (kept_nn (s.ps.take i) (mx0 n) (mx0_nn n) hpos) p.1
  have k4 := sumP_nn (kept_nn (s.ps.take i) (mx0 n) (mx0_nn n) hpos)
  have hp0 := h.pos p (List.mem_of_getElem? hp)
  have hsf := h.saf p.1; have hsm := h.sum p.1; have hln := h.len p.1
  have e : s.ps = s.ps.take i ++ p :: s.ps.drop (i + 1) := by
    obtain ⟨hi, rfl⟩ := List.getElem?_eq_some_iff.1 hp
    rw [← List.drop_eq_getElem_cons hi, List.take_append_drop]
  have k5 := sumK_nn (ps := s.ps.drop (i + 1)) (fun q hq => h.pos q (List.mem_of_mem_drop hq)) p.1
  have e2 : sumK s.ps p.1 = sumK (s.ps.take i) p.1 + (p.2 + sumK (s.ps.drop (i + 1)) p.1) := by
    conv => lhs; rw [e, sumK_app, sumK_cons, if_pos rfl]
  have hmx : mx0 n ≤ 9223372036854775807 := by unfold mx0; split <;> omega
  omega
theorem DkI.hfin (h : DkI s m) {n : Int} (k : Int) : 0 ≤ (getF (crRun n s.fm s.ps).2.2 k).2.1 ∧ (getF (crRun n s.fm s.ps).2.2 k).2.1 ≤ (getF (crRun n s.fm s.ps).2.2 k).1.length := by
  obtain ⟨h1, h2⟩ := crRun_all (n := n) (fm := s.fm) h.pos
  obtain ⟨j1, j2, _⟩ := h2 k
  rw [j1, j2]
  have k2 := kept_le k s.ps (mx0 n) (mx0_nn n) h.pos
  have k3 := sumK_nn (kept_nn s.ps (mx0 n) (mx0_nn n) h.pos) k
  have hsf := h.saf k; have hsm := h.sum k
  omega
end
end Go.Proofs.YtfiplhnplmadmaaDoor

/- The sum as plain mathematics: a word that is turned bit by bit. Conditions: none. -/
namespace Go.Proofs.YtfiplhnplmadmaaDoor

/-- One step: the lowest bit goes; if it was a one, the word is changed. -/
def lfs (c : Nat) : Nat := (c / 2) ^^^ (if c % 2 = 1 then 3988292384 else 0)
/-- So many steps. -/
def lfn : Nat → Nat → Nat
  | 0, c => c
  | n + 1, c => lfn n (lfs c)

theorem lfs_xor (a b : Nat) : lfs (a ^^^ b) = lfs a ^^^ lfs b := by
  unfold lfs
  have hm : (a ^^^ b) % 2 = (a % 2) ^^^ (b % 2) := Nat.xor_mod_two_pow (n := 1)
  rw [Nat.xor_div_two, hm]
  have ha : a % 2 = 0 ∨ a % 2 = 1 := by omega
  have hb : b % 2 = 0 ∨ b % 2 = 1 := by omega
  rcases ha with ha | ha <;> rcases hb with hb | hb <;> rw [ha, hb]
  · simp
  · simp [Nat.xor_assoc]
  · simp only [if_true, Nat.zero_ne_one, if_false, Nat.xor_zero]
    rw [Nat.xor_assoc, Nat.xor_assoc, Nat.xor_comm (b / 2)]
  · simp only [Nat.xor_self, if_true, Nat.zero_ne_one, if_false, Nat.xor_zero]
    rw [Nat.xor_assoc, ← Nat.xor_assoc 3988292384, Nat.xor_comm 3988292384, Nat.xor_assoc (b / 2), Nat.xor_self, Nat.xor_zero]
theorem lfs_lt {c : Nat} (h : c < 4294967296) : lfs c < 4294967296 := by
  unfold lfs
  exact Nat.xor_lt_two_pow (n := 32) (by omega) (by split <;> decide)
theorem lfn_xor : ∀ (n a b : Nat), lfn n (a ^^^ b) = lfn n a ^^^ lfn n b
  | 0, _, _ => rfl
  | n + 1, a, b => by show lfn n (lfs (a ^^^ b)) = _; rw [lfs_xor, lfn_xor n]; rfl
theorem lfn_lt : ∀ (n : Nat) {c : Nat}, c < 4294967296 → lfn n c < 4294967296
  | 0, _, h => h
  | n + 1, _, h => lfn_lt n (lfs_lt h)
theorem lfn_add : ∀ (m n c : Nat), lfn n (lfn m c) = lfn (m + n) c
  | 0, n, c => by rw [Nat.zero_add]; rfl
  | m + 1, n, c => by rw [show m + 1 + n = (m + n) + 1 by omega]; exact lfn_add m n (lfs c)
/-- So many steps at once: the low bits' part, and what is above. -/
theorem lfn_split : ∀ (n c : Nat), lfn n c = c / 2 ^ n ^^^ lfn n (c % 2 ^ n)
  | 0, c => by simp [lfn, Nat.mod_one]
  | n + 1, c => by
    have e1 : c % 2 ^ (n + 1) / 2 = c / 2 % 2 ^ n := by
      rw [Nat.pow_succ, Nat.mul_comm, Nat.mod_mul_right_div_self]
    have e2 : c % 2 ^ (n + 1) % 2 = c % 2 := by
      rw [Nat.pow_succ, Nat.mul_comm]; exact Nat.mod_mul_right_mod c 2 (2 ^ n)
    show lfn n (lfs c) = _ ^^^ lfn n (lfs (c % 2 ^ (n + 1)))
    unfold lfs
    rw [e1, e2, lfn_xor, lfn_xor, lfn_split n (c / 2), Nat.div_div_eq_div_mul, Nat.xor_assoc, show 2 * 2 ^ n = 2 ^ (n + 1) by rw [Nat.pow_succ]; omega]
theorem lfn_4 (c : Nat) : lfn 4 c = c / 16 ^^^ lfn 4 (c % 16) := lfn_split 4 c
theorem lfn_44 (c : Nat) : lfn 4 (lfn 4 c) = lfn 8 c := lfn_add 4 4 c

/-- What is made of a word by bytes. -/
def run (c : Nat) (l : List UInt8) : Nat := l.foldl (fun c b => lfn 8 (c ^^^ b.toNat)) c
theorem run_snoc (c : Nat) (l : List UInt8) (b : UInt8) : run c (l ++ [b]) = lfn 8 (run c l ^^^ b.toNat) := by simp [run]
theorem u8_lt (b : UInt8) : b.toNat < 256 := b.toNat_lt
/-- All bits turned. -/
def comp (c : Nat) : Nat := 4294967295 - c
theorem comp_xor {c : Nat} (h : c < 4294967296) : comp c = c ^^^ 4294967295 := by
  have h1 : (~~~ (BitVec.ofNat 32 c)).toNat = 4294967295 - c := by
    rw [BitVec.toNat_not, BitVec.toNat_ofNat, Nat.mod_eq_of_lt (by omega)]
  have h2 : (BitVec.ofNat 32 c ^^^ BitVec.allOnes 32).toNat = c ^^^ 4294967295 := by
    rw [BitVec.toNat_xor, BitVec.toNat_ofNat, Nat.mod_eq_of_lt (by omega)]; rfl
  rw [BitVec.xor_allOnes] at h2
  unfold comp
  rw [← h1, h2]
theorem comp_lt (c : Nat) : comp c < 4294967296 := by unfold comp; omega
/-- The sum of a text that goes on from c. -/
def addOf (c : Nat) (l : List UInt8) : Nat := comp (run (comp c) l)
theorem addOf_lt (c : Nat) (l : List UInt8) : addOf c l < 4294967296 := comp_lt _
end Go.Proofs.YtfiplhnplmadmaaDoor

/- Package sum: Sum, at every text. Conditions: the table reads as it is laid. -/
namespace Go.Proofs.YtfiplhnplmadmaaDoor
open Go.RowKit Go.PlainAid

/-- The table reads as it is laid. -/
def Tab (w : World) : Prop := ∀ i, i < 16 → w.cell? ⟨0, i, none⟩ = some (.int .u32 (lfn 4 i : Nat))
theorem wrap_u32 (n : Int) : IntKind.u32.wrap n = n % 4294967296 := by simp [IntKind.wrap, IntKind.bits, IntKind.signed]
theorem bits_xor_u32 (a b : Nat) (ha : a < 4294967296) (hb : b < 4294967296) : bits .xor .u32 (a : Int) (b : Int) = ((a ^^^ b : Nat) : Int) := by
  have hx : a ^^^ b < 2 ^ 32 := Nat.xor_lt_two_pow (by omega) (by omega)
  have h1 : (BitVec.ofInt 32 (a : Int)).toNat = a := by
    rw [BitVec.ofInt_natCast, BitVec.toNat_ofNat]; exact Nat.mod_eq_of_lt (by omega)
  have h2 : (BitVec.ofInt 32 (b : Int)).toNat = b := by
    rw [BitVec.ofInt_natCast, BitVec.toNat_ofNat]; exact Nat.mod_eq_of_lt (by omega)
  show IntKind.u32.wrap ((BitVec.ofInt 32 (a : Int) ^^^ BitVec.ofInt 32 (b : Int)).toNat : Int) = _
  rw [BitVec.toNat_xor, h1, h2, wrap_u32]
  omega

theorem bits_and_15 (a : Nat) (ha : a < 4294967296) : bits .and .u32 (a : Int) 15 = ((a % 16 : Nat) : Int) := by
  have h1 : (BitVec.ofInt 32 (a : Int)).toNat = a := by
    rw [BitVec.ofInt_natCast, BitVec.toNat_ofNat]; exact Nat.mod_eq_of_lt (by omega)
  show IntKind.u32.wrap ((BitVec.ofInt 32 (a : Int) &&& BitVec.ofInt 32 15).toNat : Int) = _
  have h2 : (BitVec.ofInt 32 15).toNat = 15 := by decide
  rw [BitVec.toNat_and, h1, h2, wrap_u32, show (15 : Nat) = 2 ^ 4 - 1 by rfl, Nat.and_two_pow_sub_one_eq_mod]
  omega
theorem bits_not_u32 (a : Nat) (ha : a < 4294967296) : bits .xor .u32 IntKind.u32.max (a : Int) = ((comp a : Nat) : Int) := by
  rw [comp_xor ha, Nat.xor_comm, ← bits_xor_u32 4294967295 a (by omega) ha]; rfl
/-- One half of a byte, as the walk spells it. -/
theorem half_step (x : Nat) (hx : x < 4294967296) : ∃ r q y : Nat, bits .and .u32 (x : Int) 15 = (r : Int) ∧ r < 16 ∧ (x : Int) / 16 = (q : Int) ∧ bits .xor .u32 (q : Int) ((lfn 4 r : Nat) : Int) = (y : Int) ∧ y = lfn 4 x ∧ y < 4294967296 :=
  ⟨x % 16, x / 16, lfn 4 x, bits_and_15 x hx, by omega, by omega, by
    rw [bits_xor_u32 _ _ (by omega) (lfn_lt 4 (by omega)), ← lfn_4], rfl, lfn_lt 4 hx⟩
theorem take_snoc (s : ByteArray) (k : Nat) (h : k < s.size) : s.data.toList.take (k + 1) = s.data.toList.take k ++ [s[k]] := by
  rw [List.take_succ_eq_append_getElem (by simpa using h)]; rfl

set_option maxRecDepth 100000 in
set_option maxHeartbeats 800000 in
theorem sum_any (s : ByteArray) (w : World) (ht : Tab w) (hs : s.size ≤ 9223372036854775807) :
    Calls Tryd.prog 50 #[.string s] w fun e w' => e = .returned (.int .u32 (addOf 0 s.data.toList : Nat)) ∧ w = w' := by
  have HT := Lib.hid ht; clear ht
  go_enter Tryd.func50, Tryd.ntmps50
  go_wp2
  go_loopg [3, 7] (s.size + 1) (fun g s3 s7 wr => ∃ i c : Nat, s7 = .int .i64 i ∧ s3 = .int .u32 c ∧ i ≤ s.size ∧ s.size + 1 ≤ i + g ∧ Hid (c = run 4294967295 (s.data.toList.take i)) ∧ c < 4294967296 ∧ w = wr)
  case atStart => exact ⟨0, 4294967295, rfl, rfl, by omega, by omega, rfl, by omega, rfl⟩
  case round =>
    obtain ⟨i, c, rfl, rfl, hi, hg, hc, hcl, rfl⟩ := hrel
    by_cases hlt : i < s.size
    · obtain ⟨b, hb⟩ : ∃ b : UInt8, b = s[i] := ⟨_, rfl⟩
      have hb8 := u8_lt b
      obtain ⟨x, hx⟩ : ∃ x : Nat, x = c ^^^ b.toNat := ⟨_, rfl⟩
      have hxl : x < 4294967296 := by rw [hx]; exact Nat.xor_lt_two_pow (n := 32) hcl (by omega)
      have h2 : bits .xor .u32 (c : Int) ((s[i].toNat : Nat) : Int) = (x : Int) := by rw [← hb, hx]; exact bits_xor_u32 _ _ hcl (by omega)
      have h1 : (((s[i].toNat : Nat) : Int)) % 4294967296 = ((s[i].toNat : Nat) : Int) := by rw [← hb]; omega
      obtain ⟨r, q, y, h3, hr, h4, h5, hy, hyl⟩ := half_step x hxl
      obtain ⟨r', q', z, h6, hr', h7, h8, hz, hzl⟩ := half_step y hyl
      have k1 := HT.out r hr
      have k2 := HT.out r' hr'
      have HZ : Hid (z = run 4294967295 (s.data.toList.take (i + 1))) := Lib.hid (by
        rw [take_snoc s i hlt, run_snoc, ← hb, ← hc.out, ← hx, hz, hy]; exact lfn_44 x)
      clear hx hy hz hb hc
      go_wp2
      go_roundg (gk - 1)
      case rel => exact ⟨i + 1, z, by go_num, rfl, by omega, by omega, HZ.out, hzl, rfl⟩
      case measure => omega
    · have hi2 : i = s.size := by omega
      have HE : Hid (bits .xor .u32 IntKind.u32.max (c : Int) = ((addOf 0 s.data.toList : Nat) : Int)) := Lib.hid (by
        rw [bits_not_u32 c hcl]
        have e := hc.out
        rw [List.take_of_length_le (by simp; omega)] at e
        rw [e]; rfl)
      clear hi2 hc
      go_wp2
      go_ret
      exact ⟨ret_int HE.out, rfl⟩
end Go.Proofs.YtfiplhnplmadmaaDoor

/- The table of the sums, behind what came since. Conditions: none. -/
namespace Go.Proofs.YtfiplhnplmadmaaDoor
open Go.RowKit

theorem Tab.below {w w' : World} (h : Tab w) (hb : Below w.heap.size w w') : Tab w' := fun i hi => cell_below hb (h i hi)
theorem tab_pos {w : World} (h : Tab w) : 0 < w.heap.size := World.block_lt_of_cell? w _ (h 0 (by omega))
theorem Tab.since {w w' : World} (h : Tab w) {B : Nat} (hB : 0 < B) (hb : Below B w w') : Tab w' := fun i hi => by rw [hb.cell (p := ⟨0, i, none⟩) hB]; exact h i hi
theorem sum_is (s : ByteArray) (A : Nat) (w : World) (h : addOf 0 s.data.toList = A) (ht : Tab w) (hs : s.size ≤ 9223372036854775807) :
    Calls Tryd.prog 50 #[.string s] w fun e w' => e = .returned (.int .u32 (A : Nat)) ∧ w = w' :=
  (sum_any s w ht hs).mono fun _ _ ⟨he, hw⟩ => ⟨by rw [he, h], hw⟩
end Go.Proofs.YtfiplhnplmadmaaDoor

/- Package varnum: what Put, Len and the count of bytes answer for every number. Conditions: none. -/
namespace Go.Proofs.YtfiplhnplmadmaaDoor
open Go.RowKit

def wd (n : Int) : Int :=
  if n < 256 then 1 else if n < 65536 then 2 else if n < 16777216 then 3 else if n < 4294967296 then 4
  else if n < 1099511627776 then 5 else if n < 281474976710656 then 6 else if n < 72057594037927936 then 7 else 8

theorem wd_step (m : Int) (h : 0 ≤ m) (h1 : m < 18446744073709551616) (h2 : m / 256 ≠ 0) : wd m = 1 + wd (m / 256) := by
  unfold wd; repeat' split
  all_goals omega
theorem wd_bd (m : Int) : 1 ≤ wd m ∧ wd m ≤ 8 := by unfold wd; repeat' split
                                                    all_goals omega
theorem wd_end (m : Int) (h2 : m / 256 = 0) : wd m = 1 := by
  unfold wd; rw [if_pos (by omega)]
def lenOf (n : Int) : Int := if n < 248 then 1 else 1 + wd n
theorem lenOf_small (n : Int) (h : n < 248) : lenOf n = 1 := if_pos h
theorem lenOf_big (n : Int) (h : ¬ n < 248) : lenOf n = 1 + wd n := if_neg h

/-- k bytes of n, the most significant one first. -/
def be : Nat → Nat → List UInt8
  | 0, _ => []
  | k + 1, n => be k (n / 256) ++ [UInt8.ofNat n]
theorem be_len (k n : Nat) : (be k n).length = k := by
  induction k generalizing n with
  | zero => rfl
  | succ k ih => simp [be, ih]
def putL (n : Int) : List UInt8 := if n < 248 then [UInt8.ofNat n.toNat] else UInt8.ofNat (247 + wd n).toNat :: be (wd n).toNat n.toNat
theorem putL_small (n : Int) (h : n < 248) : putL n = [UInt8.ofNat n.toNat] := if_pos h
theorem putL_big (n : Int) (h : ¬ n < 248) : putL n = UInt8.ofNat (247 + wd n).toNat :: be (wd n).toNat n.toNat := if_neg h


set_option maxRecDepth 100000 in
set_option maxHeartbeats 1600000 in
theorem width_any (n : Int) (w : World) (h0 : 0 ≤ n) (h1 : n < 18446744073709551616) :
    Calls Tryd.prog 65 #[.int .u64 n] w fun e w' => e = .returned (.int .i64 (wd n)) ∧ w = w' := by
  go_enter Tryd.func65, Tryd.ntmps65
  go_wp2; go_step3; go_wp2; go_step3; go_wp2
  go_loopg [0, 3] 10 (fun g s0 s3 wr => ∃ (m : Int) (k : Nat), s0 = .int .u64 m ∧ s3 = .int .i64 k ∧ 0 ≤ m ∧ m < 18446744073709551616 ∧ k + g ≤ 11 ∧ 11 ≤ k + g ∧ 1 ≤ g ∧ wd n + 1 = k + wd m ∧ w = wr)
  case atStart => exact ⟨n, 1, rfl, rfl, h0, h1, by omega, by omega, by omega, by omega, rfl⟩
  case round =>
    obtain ⟨m, k, rfl, rfl, hm0, hm1, hk, hk2, hg, hw, rfl⟩ := hrel
    have hk8 : k ≤ 10 := by omega
    have H := Lib.hid hw; have H1 := Lib.hid hm1; clear hw h1 hm1
    go_wp2
    · have hz : m / 256 = 0 := by simpa using ‹(m / 256 == 0) = true›
      rw [Exit.noGoto_ret]; go_ret
      have := H.out; have := wd_end m hz
      exact ⟨ret_int (by omega), rfl⟩
    · have hz : m / 256 ≠ 0 := by simpa using ‹(m / 256 == 0) = false›
      have := H.out; have := wd_step m hm0 H1.out hz; have := wd_bd (m/256); have := wd_bd n; have := H1.out
      go_roundg (gk - 1)
      case rel => exact ⟨m / 256, k + 1, rfl, by go_num, by omega, by omega, by omega, by omega, by omega, by omega, rfl⟩
      case measure => omega

set_option maxRecDepth 100000 in
set_option maxHeartbeats 1600000 in
theorem len_any (n : Int) (w : World) (h0 : 0 ≤ n) (h1 : n < 18446744073709551616) :
    Calls Tryd.prog 89 #[.int .u64 n] w fun e w' => e = .returned (.int .i64 (lenOf n)) ∧ w = w' := by
  have := wd_bd n
  have H1 := Lib.hid h1; clear h1
  by_cases h : n < 248
  · rw [lenOf_small n h]
    go_enter Tryd.func89, Tryd.ntmps89
    go_wp2
    go_ret
    exact ⟨rfl, rfl⟩
  · rw [lenOf_big n h]
    go_enter Tryd.func89, Tryd.ntmps89
    go_wp2_with (go_at_call 65; refine (width_any _ _ h0 H1.out).mono ?_; rintro e w' ⟨rfl, rfl⟩)
    go_ret
    exact ⟨rfl, rfl⟩

set_option maxRecDepth 100000 in
set_option maxHeartbeats 1600000 in
theorem put_small (n : Int) (w : World) (h0 : 0 ≤ n) (h1 : n < 248) :
    Calls Tryd.prog 48 #[.int .u64 n] w fun e w' => e = .returned (.string ⟨(putL n).toArray⟩) ∧ Below w.heap.size w w' := by
  have hc := run_convert_bytes_back (P := Tryd.prog) (w.alloc (.cells #[.int .u8 n] 5)) 75 9 5 ⟨w.heap.size, 0, none⟩ 1 (putL n) Tryd.underlying75 Tryd.underlying5 Tryd.underlying9
    (by rw [putL_small n h1]; intro j hj; simp at hj; subst hj; rw [Addr.add_lit, World.cell?_alloc_mark]; simp; omega)
  rw [show (putL n).length = 1 by rw [putL_small n h1]; rfl] at hc
  go_enter Tryd.func48, Tryd.ntmps48
  go_wp2
  go_ret
  exact ⟨rfl, (Below.refl _ _).alloc (Nat.le_refl _) _⟩

theorem info_u8 : (Tryd.prog.info? 5).map (fun i => (i.zero, i.size, i.bytes)) = some (some (.int .u8 0), 1, 1) := by kernel_rfl

def bs (l : List UInt8) : List Value := l.map fun b => .int .u8 (b.toNat : Int)

theorem byte_at (n : Int) (h : 0 ≤ n) (j : Nat) : n / 2 ^ (8 * j) % 256 = ((UInt8.ofNat (n.toNat / 256 ^ j)).toNat : Int) := by
  obtain ⟨m, rfl⟩ := Int.eq_ofNat_of_zero_le h
  rw [Int.toNat_natCast, UInt8.toNat_ofNat', show (2 : Int) ^ (8 * j) = ((256 ^ j : Nat) : Int) by rw [Int.pow_mul]; norm_cast, show (2 : Nat) ^ 8 = 256 from rfl, Int.natCast_emod, Int.natCast_ediv]
  rfl
theorem u8_head (k : Nat) (h : k ≤ 8) : (247 + (k : Int)) = ((UInt8.ofNat (247 + k)).toNat : Int) := by
  rw [UInt8.toNat_ofNat']; omega
theorem be_snoc (n k i : Nat) (h : i < k) : be (i + 1) (n / 256 ^ (k - (i + 1))) = be i (n / 256 ^ (k - i)) ++ [UInt8.ofNat (n / 256 ^ (k - 1 - i))] := by
  rw [be]
  have e1 : k - (i + 1) = k - 1 - i := by omega
  have e2 : k - i = (k - 1 - i) + 1 := by omega
  rw [e1, e2, Nat.pow_succ, Nat.div_div_eq_div_mul]
theorem bs_at {l : List UInt8} {j : Nat} (hj : j < l.length) : (bs l)[j]? = some (.int .u8 (l[j].toNat : Int)) := by
  simp [bs, List.getElem?_eq_getElem hj]
set_option maxRecDepth 100000 in
set_option maxHeartbeats 1600000 in
theorem put_big (n : Int) (w : World) (h0 : 248 ≤ n) (h1 : n < 18446744073709551616) :
    Calls Tryd.prog 48 #[.int .u64 n] w fun e w' => e = .returned (.string ⟨(putL n).toArray⟩) ∧ Below w.heap.size w w' := by
  obtain ⟨i0, hi, hz0, hz1, hz2⟩ := info_parts info_u8
  obtain ⟨hk1, hk8⟩ := wd_bd n
  have H1 := Lib.hid h1; clear h1
  obtain ⟨k, hk⟩ : ∃ k : Nat, (k : Int) = wd n := ⟨(wd n).toNat, by omega⟩
  rw [← hk] at hk1 hk8
  have HK := Lib.hid hk; clear hk
  go_enter Tryd.func48, Tryd.ntmps48
  go_wp2_with (first
    | (go_at_call 65; refine (width_any _ _ (by omega) H1.out).mono ?_; rintro e w' ⟨rfl, rfl⟩; rw [← HK.out])
    | (at_make; go_loud (refine wpList_make_own _ rfl (.const (.int .i64 0)) (.tmp 15) 75 rfl w.heap.size 5 i0 (.int .u8 0) 1 Tryd.underlying75 hi hz0 hz1 .i64 .i64 (1 + (k : Int)) (k + 1) rfl rfl (by omega) (by rw [hz2]; omega) (by unfold maxLen; omega) (Nat.le_refl _) ?_); intro w1 hown1 hgr1)
    | (at_builtin; refine wpList_append_fits _ rfl (.tmp 17) (.tmp 21) 75 rfl w.heap.size 5 i0 1 Tryd.underlying75 hi hz1 w.heap.size 0 (k+1) [] rfl (hown1.alloc _) ⟨w1.heap.size, 0, none⟩ 1 1 [.int .u8 (247 + (k : Int))] rfl rfl (one_cell _ _ _) (by simp [Value.oneCell']) (by omega) ?_; intro w2 hown2 hgr2))
  have B1 : Below w.heap.size w w2 := ((((Below.refl _ _).grown hgr1 (Nat.le_refl _) (by intro k h; cases h)).alloc (by have := hgr1.size; simpa using this) _).grown hgr2 (by have := hgr1.size; simp; omega) (by intro k h; cases h; exact Nat.le_refl _))
  go_loopg [4, 24] (k + 1) (fun g s4 s24 wr => ∃ i : Nat, s4 = .slice (some ⟨w.heap.size, 0, none⟩) (i + 1) (k + 1) ∧ s24 = .int .i64 i ∧ i ≤ k ∧ i + g ≤ k + 1 ∧ k + 1 ≤ i + g ∧ 1 ≤ g ∧
    wr.ownsRow w.heap.size 5 1 s4 (i + 1) (bs (UInt8.ofNat (247 + k) :: be i (n.toNat / 256 ^ (k - i)))) ∧ Below w.heap.size w wr)
  case atStart => exact ⟨0, rfl, rfl, by omega, by omega, by omega, by omega, by have := hown2; rw [u8_head k (by omega)] at this; exact this, B1⟩
  case round =>
    clear hown2 hown1 hgr1 hgr2 B1
    obtain ⟨i, rfl, rfl, hik, hg1, hg2, hg3, hown, hbel⟩ := hrel
    have hsz := hbel.size
    have HO := Lib.hid hown; clear hown
    by_cases hlt : i < k
    · go_wp2_with (at_builtin; refine wpList_append_fits _ rfl (.tmp 27) (.tmp 36) 75 rfl w.heap.size 5 i0 1 Tryd.underlying75 hi hz1 w.heap.size (i + 1) (k+1) _ rfl (HO.out.alloc _) ⟨wr.heap.size, 0, none⟩ 1 1 [.int .u8 (n / 2 ^ (8 * (k - 1 - i)) % 256)] rfl rfl (one_cell _ _ _) (by simp [Value.oneCell']) (by omega) ?_; intro w3 hown3 hgr3)
      have hown4 := hown3
      rw [byte_at n (by omega)] at hown4
      have e : bs (UInt8.ofNat (247 + k) :: be i (n.toNat / 256 ^ (k - i))) ++ [.int .u8 ((UInt8.ofNat (n.toNat / 256 ^ (k - 1 - i))).toNat : Int)] = bs (UInt8.ofNat (247 + k) :: be (i + 1) (n.toNat / 256 ^ (k - (i + 1)))) := by
        rw [be_snoc _ _ _ hlt]; simp [bs]
      rw [e] at hown4
      clear hown3
      go_roundg (gk - 1)
      case rel => exact ⟨i + 1, rfl, by go_num, by omega, by omega, by omega, by omega, hown4, (hbel.alloc hsz _).grown hgr3 (by simp; omega) (by intro k h; cases h; exact Nat.le_refl _)⟩
      case measure => omega
    · obtain rfl : k = i := by omega
      have hl : (putL n).length = k + 1 := by rw [putL_big n (by omega)]; have := HK.out; simp [be_len]; omega
      have he : putL n = UInt8.ofNat (247 + k) :: be k (n.toNat / 256 ^ (k - k)) := by
        rw [putL_big n (by omega), ← HK.out, show (247 + (k : Int)).toNat = 247 + k by omega, Int.toNat_natCast, Nat.sub_self, Nat.pow_zero, Nat.div_one]
      have HO2 := HO.out
      rw [← he] at HO2
      have hc := run_convert_bytes_back (P := Tryd.prog) wr 75 9 5 ⟨w.heap.size, 0, none⟩ (k + 1) (putL n) Tryd.underlying75 Tryd.underlying5 Tryd.underlying9
        (by intro j hj; exact HO2.cells (g := w.heap.size) rfl j _ (bs_at hj))
      rw [hl] at hc
      have hb1 := wd_bd n
      clear HO HO2 he hl
      go_wp2
      go_ret
      exact ⟨rfl, hbel⟩

theorem put_any (n : Int) (w : World) (h0 : 0 ≤ n) (h1 : n < 18446744073709551616) :
    Calls Tryd.prog 48 #[.int .u64 n] w fun e w' => e = .returned (.string ⟨(putL n).toArray⟩) ∧ Below w.heap.size w w' := by
  by_cases h : n < 248
  · exact put_small n w h0 h
  · exact put_big n w (by omega) h1
end Go.Proofs.YtfiplhnplmadmaaDoor

/- Package varnum: what Get answers for every text and place; what was put is got. Conditions: texts of at most 2^63-1 bytes. -/
namespace Go.Proofs.YtfiplhnplmadmaaDoor
open Go.RowKit Go.PlainAid

set_option maxRecDepth 100000 in
set_option maxHeartbeats 400000 in
theorem get_direct (s : ByteArray) (a : Nat) (w : World) (hs : s.size ≤ 9223372036854775807) (ha : a < s.size) (hd : bt s a < 248) :
    Calls Tryd.prog 81 #[.string s, .int .i64 a] w fun e w' => e = .returned (.tuple #[.int .u64 (bt s a), .int .i64 (a + 1), .int .i64 0]) ∧ w = w' := by
  have hb := get_bt s
  have hb0 := bt_nonneg s a
  have hne : ((a : Int) == (s.size : Int)) = false := by simp; omega
  go_enter Tryd.func81, Tryd.ntmps81
  go_wp2
  go_ret3
  exact ⟨rfl, rfl⟩

set_option maxRecDepth 100000 in
set_option maxHeartbeats 400000 in
theorem get_none (s : ByteArray) (a : Int) (w : World) (ha : a < 0 ∨ (s.size : Int) < a) :
    Calls Tryd.prog 81 #[.string s, .int .i64 a] w fun e w' => e = .returned (.tuple #[.int .u64 0, .int .i64 0, .int .i64 1]) ∧ w = w' := by
  rcases ha with ha | ha
  · go_enter Tryd.func81, Tryd.ntmps81
    go_wp2
    go_ret3
    exact ⟨rfl, rfl⟩
  · have h0 : ¬ a < 0 := by omega
    go_enter Tryd.func81, Tryd.ntmps81
    go_wp2
    go_ret3
    exact ⟨rfl, rfl⟩

set_option maxRecDepth 100000 in
set_option maxHeartbeats 400000 in
theorem get_end (s : ByteArray) (w : World) :
    Calls Tryd.prog 81 #[.string s, .int .i64 s.size] w fun e w' => e = .returned (.tuple #[.int .u64 0, .int .i64 0, .int .i64 2]) ∧ w = w' := by
  go_enter Tryd.func81, Tryd.ntmps81
  go_wp2
  go_ret3
  exact ⟨rfl, rfl⟩

set_option maxRecDepth 100000 in
set_option maxHeartbeats 400000 in
theorem get_short (s : ByteArray) (a : Nat) (w : World) (_hs : s.size ≤ 9223372036854775807) (ha : a < s.size) (hd : 248 ≤ bt s a) (hl : (s.size : Int) - a - 1 < bt s a - 247) :
    Calls Tryd.prog 81 #[.string s, .int .i64 a] w fun e w' => e = .returned (.tuple #[.int .u64 0, .int .i64 0, .int .i64 2]) ∧ w = w' := by
  have hb := get_bt s
  have hb0 := bt_le s a
  have hne : ((a : Int) == (s.size : Int)) = false := by simp; omega
  go_enter Tryd.func81, Tryd.ntmps81
  go_wp2
  go_ret3
  exact ⟨rfl, rfl⟩

/-- The number that k bytes of s behind place a make. -/
def val (s : ByteArray) (a : Nat) : Nat → Int
  | 0 => 0
  | k + 1 => val s a k * 256 + bt s (a + k)
theorem val_nonneg (s : ByteArray) (a k : Nat) : 0 ≤ val s a k := by
  induction k with
  | zero => simp [val]
  | succ k ih => have := bt_nonneg s (a + k); simp only [val]; omega
theorem val_lt (s : ByteArray) (a k : Nat) : val s a k < 256 ^ k := by
  induction k with
  | zero => simp [val]
  | succ k ih => have := bt_le s (a + k); simp only [val, Int.pow_succ]; omega

theorem or_low (v b : Int) (h0 : 0 ≤ v) (h1 : v ≤ 72057594037927935) (b0 : 0 ≤ b) (b1 : b ≤ 255) : bits .or .u64 (v * 256) b = v * 256 + b := by
  obtain ⟨x, rfl⟩ := Int.eq_ofNat_of_zero_le h0
  obtain ⟨y, rfl⟩ := Int.eq_ofNat_of_zero_le b0
  have e : ((x : Int) * 256) = ((x * 256 : Nat) : Int) := by omega
  rw [e, u64_or_nat _ _ (by omega) (by omega)]
  have h := Nat.two_pow_add_eq_or_of_lt (i := 8) (b := y) (by omega) x
  rw [show x * 256 = 2 ^ 8 * x by omega, ← h]
  omega
theorem val_56 (s : ByteArray) (a i : Nat) (h : i < 8) : val s a i ≤ 72057594037927935 := by
  have v1 := val_lt s a i
  have : (256 : Nat) ^ i ≤ 256 ^ 7 := Nat.pow_le_pow_right (by decide) (by omega)
  have e : ((256 : Int) ^ i) = ((256 ^ i : Nat) : Int) := by rw [Int.natCast_pow]; rfl
  have : (256 : Nat) ^ 7 = 72057594037927936 := by decide
  omega

def getLong (s : ByteArray) (a k : Nat) : Value :=
  if lenOf (val s (a + 1) k) = 1 + k then .tuple #[.int .u64 (val s (a + 1) k), .int .i64 (a + 1 + k), .int .i64 0] else .tuple #[.int .u64 0, .int .i64 0, .int .i64 4]
theorem getLong_yes {s : ByteArray} {a k : Nat} (h : lenOf (val s (a + 1) k) = 1 + k) : getLong s a k = .tuple #[.int .u64 (val s (a + 1) k), .int .i64 (a + 1 + k), .int .i64 0] := if_pos h
theorem getLong_no {s : ByteArray} {a k : Nat} (h : ¬ lenOf (val s (a + 1) k) = 1 + k) : getLong s a k = .tuple #[.int .u64 0, .int .i64 0, .int .i64 4] := if_neg h

set_option maxRecDepth 100000 in
set_option maxHeartbeats 400000 in
theorem get_long (s : ByteArray) (a k : Nat) (w : World) (hs : s.size ≤ 9223372036854775807) (ha : a < s.size) (hk0 : 1 ≤ k) (hk8 : k ≤ 8) (hd : bt s a = 247 + k) (hl : a + k < s.size) :
    Calls Tryd.prog 81 #[.string s, .int .i64 a] w fun e w' => e = .returned (getLong s a k) ∧ w = w' := by
  have hb := get_bt s
  have hne : ((a : Int) == (s.size : Int)) = false := by simp; omega
  go_enter Tryd.func81, Tryd.ntmps81
  have hsub : (247 + (k : Int) - 247) = k := by omega
  go_wp2
  go_loopg [8, 45] (k + 1) (fun g s8 s45 wr => ∃ i : Nat, s8 = .int .u64 (val s (a + 1) i) ∧ s45 = .int .i64 i ∧ i ≤ k ∧ i + g ≤ k + 1 ∧ k + 1 ≤ i + g ∧ 1 ≤ g ∧ w = wr)
  case atStart => exact ⟨0, rfl, rfl, by omega, by omega, by omega, by omega, rfl⟩
  case round =>
    obtain ⟨i, rfl, rfl, hik, hg1, hg2, hg3, rfl⟩ := hrel
    have v0 := val_nonneg s (a + 1) i
    have v1 := val_lt s (a + 1) i
    by_cases hlt : i < k
    · have v2 := val_56 s (a + 1) i (by omega)
      have b0 := bt_nonneg s (a + 1 + i)
      have b1 := bt_le s (a + 1 + i)
      have hor := or_low _ _ v0 v2 b0 b1
      clear v1
      go_wp2
      go_roundg (gk - 1)
      case rel => exact ⟨i + 1, by simp [val], by go_num, by omega, by omega, by omega, by omega, rfl⟩
      case measure => omega
    · obtain rfl : k = i := by omega
      have v3 : val s (a + 1) k < 18446744073709551616 := by
        have : (256 : Nat) ^ k ≤ 256 ^ 8 := Nat.pow_le_pow_right (by decide) (by omega)
        have e : ((256 : Int) ^ k) = ((256 ^ k : Nat) : Int) := by rw [Int.natCast_pow]; rfl
        have : (256 : Nat) ^ 8 = 18446744073709551616 := by decide
        omega
      have H3 := Lib.hid v3; clear v3 v1
      by_cases hle : lenOf (val s (a + 1) k) = 1 + k
      · have HL := Lib.hid (getLong_yes hle)
        have hb1 : (lenOf (val s (a + 1) k) != 1 + (k : Int)) = false := by simp [hle]
        clear hle
        go_wp2_with (go_at_call 89; refine (len_any _ _ v0 H3.out).mono ?_; rintro e w' ⟨rfl, rfl⟩)
        go_ret3
        exact ⟨by rw [HL.out]; rfl, rfl⟩
      · have HL := Lib.hid (getLong_no hle)
        have hb1 : (lenOf (val s (a + 1) k) != 1 + (k : Int)) = true := by simp [hle]
        clear hle
        go_wp2_with (go_at_call 89; refine (len_any _ _ v0 H3.out).mono ?_; rintro e w' ⟨rfl, rfl⟩)
        go_ret3
        exact ⟨by rw [HL.out]; rfl, rfl⟩

/-- What Get answers: the number, the place behind it, the error. -/
def getR (s : ByteArray) (a : Int) : Int × Int × Int :=
  if a < 0 ∨ (s.size : Int) < a then (0, 0, 1) else if a = s.size then (0, 0, 2)
  else if bt s a.toNat < 248 then (bt s a.toNat, a + 1, 0)
  else if (s.size : Int) - a - 1 < bt s a.toNat - 247 then (0, 0, 2)
  else if lenOf (val s (a.toNat + 1) (bt s a.toNat - 247).toNat) = bt s a.toNat - 246 then (val s (a.toNat + 1) (bt s a.toNat - 247).toNat, a + 1 + (bt s a.toNat - 247), 0)
  else (0, 0, 4)
def getV (r : Int × Int × Int) : Value := .tuple #[.int .u64 r.1, .int .i64 r.2.1, .int .i64 r.2.2]

theorem get_any (s : ByteArray) (a : Int) (w : World) (hs : s.size ≤ 9223372036854775807) :
    Calls Tryd.prog 81 #[.string s, .int .i64 a] w fun e w' => e = .returned (getV (getR s a)) ∧ w = w' := by
  by_cases h1 : a < 0 ∨ (s.size : Int) < a
  · rw [show getR s a = (0, 0, 1) from if_pos h1]; exact get_none s a w h1
  obtain ⟨n, rfl⟩ := Int.eq_ofNat_of_zero_le (show 0 ≤ a by omega)
  unfold getR
  rw [if_neg h1, Int.toNat_natCast]
  by_cases h2 : (n : Int) = s.size
  · rw [if_pos h2, h2]; exact get_end s w
  rw [if_neg h2]
  have hn : n < s.size := by omega
  by_cases h3 : bt s n < 248
  · rw [if_pos h3]; exact get_direct s n w hs hn h3
  rw [if_neg h3]
  have hb := bt_le s n
  by_cases h4 : (s.size : Int) - n - 1 < bt s n - 247
  · rw [if_pos h4]; exact get_short s n w hs hn (by omega) h4
  rw [if_neg h4]
  obtain ⟨k, hk⟩ := Int.eq_ofNat_of_zero_le (show 0 ≤ bt s n - 247 by omega)
  rw [show bt s n - 246 = 1 + k by omega, hk, Int.toNat_natCast]
  have := get_long s n k w hs hn (by omega) (by omega) (by omega) (by omega)
  unfold getLong at this
  by_cases h5 : lenOf (val s (n + 1) k) = 1 + k
  · rw [if_pos h5] at this ⊢; exact this
  · rw [if_neg h5] at this ⊢; exact this

theorem bt_data (s : ByteArray) (i : Nat) : bt s i = ((s.data.toList.getD i 0).toNat : Int) := by
  unfold bt
  by_cases h : i < s.size
  · rw [dif_pos h]
    have h' : i < s.data.toList.length := by simpa using h
    simp only [List.getD, List.getElem?_eq_getElem h', Option.getD_some]
    rfl
  · rw [dif_neg h]
    have h' : s.data.toList.length ≤ i := by simpa using h
    simp [List.getD, List.getElem?_eq_none h']
theorem lenOf_bd (n : Int) : 1 ≤ lenOf n ∧ lenOf n ≤ 9 := by unfold lenOf; have := wd_bd n; split <;> omega
theorem putL_len (n : Int) : ((putL n).length : Int) = lenOf n := by
  unfold putL lenOf; have := wd_bd n
  split
  · rfl
  · simp [be_len]; omega
/-- The bytes from place a on are those of l. -/
def has (s : ByteArray) (a : Nat) (l : List UInt8) : Prop := ∀ j (h : j < l.length), bt s (a + j) = (l[j].toNat : Int)
theorem has_app {s : ByteArray} {a : Nat} {l m : List UInt8} (h : has s a (l ++ m)) : has s a l ∧ has s (a + l.length) m := by
  refine ⟨fun j hj => ?_, fun j hj => ?_⟩
  · have := h j (by simp; omega); rw [List.getElem_append_left hj] at this; exact this
  · have := h (l.length + j) (by simp; omega); rw [List.getElem_append_right (by omega)] at this; simpa [Nat.add_assoc] using this
theorem val_be {s : ByteArray} {a : Nat} (k n : Nat) (h : has s a (be k n)) : val s a k = ((n % 256 ^ k : Nat) : Int) := by
  induction k generalizing n with
  | zero => simp [val, Nat.mod_one]
  | succ k ih =>
    rw [be] at h
    obtain ⟨h1, h2⟩ := has_app h
    have hb := h2 0 (by simp)
    rw [be_len] at hb
    simp only [Nat.add_zero, List.getElem_cons_zero, UInt8.toNat_ofNat', show (2 : Nat) ^ 8 = 256 from rfl] at hb
    rw [val, ih _ h1, hb]
    have e : n % 256 ^ (k + 1) = n / 256 % 256 ^ k * 256 + n % 256 := by
      rw [Nat.pow_succ, Nat.mul_comm (256 ^ k) 256, Nat.mod_mul]; omega
    rw [e]; omega
theorem wd_pow (n : Int) (h1 : n < 18446744073709551616) : n.toNat < 256 ^ (wd n).toNat := by
  unfold wd; repeat' split
  all_goals simp; omega
theorem get_put {s : ByteArray} {a : Nat} (n : Int) (h0 : 0 ≤ n) (h1 : n < 18446744073709551616) (hs : a + (putL n).length ≤ s.size) (h : has s a (putL n)) : getR s a = (n, a + lenOf n, 0) := by
  have hl := putL_len n
  have hl2 := lenOf_bd n
  have hw := wd_bd n
  unfold getR
  rw [if_neg (by omega), if_neg (by omega), Int.toNat_natCast]
  by_cases hn : n < 248
  · rw [putL_small n hn] at h
    have hb := h 0 (by simp)
    simp only [Nat.add_zero, List.getElem_cons_zero, UInt8.toNat_ofNat', show (2 : Nat) ^ 8 = 256 from rfl] at hb
    rw [if_pos (by omega), lenOf_small n hn]
    congr 1; omega
  · have hlo := lenOf_big n hn
    rw [putL_big n hn] at h
    have hb := h 0 (by simp)
    simp only [Nat.add_zero, List.getElem_cons_zero, UInt8.toNat_ofNat', show (2 : Nat) ^ 8 = 256 from rfl] at hb
    have hb2 : bt s a = 247 + wd n := by omega
    rw [if_neg (by omega), if_neg (by omega), show bt s a - 247 = wd n by omega]
    have hv := val_be (wd n).toNat n.toNat ((has_app (l := [_]) h).2)
    rw [Nat.mod_eq_of_lt (wd_pow n h1)] at hv
    have hv2 : val s (a + 1) (wd n).toNat = n := by simp only [List.length_cons, List.length_nil, Nat.zero_add] at hv; omega
    rw [hv2, if_pos (by omega), hlo]
    congr 2; omega
end Go.Proofs.YtfiplhnplmadmaaDoor

/- Package varnum: the walk of the law 'there and back'. Conditions: texts within the form's own reach. -/
namespace Go.Proofs.YtfiplhnplmadmaaDoor
open Go.RowKit Go.PlainAid

theorem bt_app_left (a b : ByteArray) (i : Nat) (h : i < a.size) : bt (a ++ b) i = bt a i := by
  rw [bt_data, bt_data, ByteArray.data_append, Array.toList_append]
  simp only [List.getD, List.getElem?_append_left (show i < a.data.toList.length by simpa using h)]
theorem bt_app_right (a b : ByteArray) (i : Nat) : bt (a ++ b) (a.size + i) = bt b i := by
  rw [bt_data, bt_data, ByteArray.data_append, Array.toList_append]
  simp only [List.getD]
  rw [List.getElem?_append_right (show a.data.toList.length ≤ a.size + i by simp), show a.size + i - a.data.toList.length = i by simp]
theorem bt_lit (l : List UInt8) (i : Nat) (h : i < l.length) : bt ⟨l.toArray⟩ i = (l[i].toNat : Int) := by
  rw [bt_data]; simp [List.getD, List.getElem?_eq_getElem h]
theorem has_mid (a c : ByteArray) (l : List UInt8) : has (a ++ ⟨l.toArray⟩ ++ c) a.size l := by
  intro j hj
  rw [bt_app_left _ _ _ (by rw [ByteArray.size_append]; show _ < a.size + l.length; omega), bt_app_right, bt_lit _ _ hj]

theorem getR_go (s : ByteArray) (a : Nat) (h : (getR s a).2.2 = 0) : (a : Int) < (getR s a).2.1 ∧ (getR s a).2.1 ≤ s.size ∧ 0 ≤ (getR s a).1 ∧ (getR s a).1 < 18446744073709551616 := by
  unfold getR at h ⊢
  have b0 := bt_nonneg s (a : Int).toNat
  have b1 := bt_le s (a : Int).toNat
  split
  · rename_i h1; rw [if_pos h1] at h; simp at h
  rename_i h1; rw [if_neg h1] at h
  split
  · rename_i h2; rw [if_pos h2] at h; simp at h
  rename_i h2; rw [if_neg h2] at h
  split
  · simp only; omega
  rename_i h3; rw [if_neg h3] at h
  split
  · rename_i h4; rw [if_pos h4] at h; simp at h
  rename_i h4; rw [if_neg h4] at h
  split
  · have hv := val_nonneg s ((a : Int).toNat + 1) (bt s (a : Int).toNat - 247).toNat
    have hv1 := val_lt s ((a : Int).toNat + 1) (bt s (a : Int).toNat - 247).toNat
    have : (256 : Nat) ^ (bt s (a : Int).toNat - 247).toNat ≤ 256 ^ 8 := Nat.pow_le_pow_right (by decide) (by omega)
    have e : ((256 : Int) ^ (bt s (a : Int).toNat - 247).toNat) = ((256 ^ (bt s (a : Int).toNat - 247).toNat : Nat) : Int) := by rw [Int.natCast_pow]; rfl
    have : (256 : Nat) ^ 8 = 18446744073709551616 := by decide
    simp only; omega
  · rename_i h5; rw [if_neg h5] at h; simp at h

end Go.Proofs.YtfiplhnplmadmaaDoor

/- The reference of package varnum (needs, Put, Get, All): it answers what the package does. Conditions: texts of at most 2^63-1 bytes, for All 2^43. -/
namespace Go.Proofs.YtfiplhnplmadmaaDoor
open Go.RowKit Go.PlainAid

/-- The bytes while they are written: i of them are still zero. -/
def half (k i n : Nat) : List UInt8 := UInt8.ofNat (247 + k) :: (List.replicate i 0 ++ be (k - i) n)
end Go.Proofs.YtfiplhnplmadmaaDoor

/- Package frame, and the document's own: four bytes of a sum; Put. Conditions: the table reads as it is laid. -/
namespace Go.Proofs.YtfiplhnplmadmaaDoor
open Go.RowKit Go.PlainAid

def fourL (c : Nat) : List UInt8 := [UInt8.ofNat (c / 16777216), UInt8.ofNat (c / 65536), UInt8.ofNat (c / 256), UInt8.ofNat c]
def fourB (c : Nat) : ByteArray := ⟨(fourL c).toArray⟩
theorem four_cells (c : Nat) (w : World) (hc : c < 4294967296) : ∀ j (hj : j < (fourL c).length), (w.alloc (.cells #[.int .u8 ((c : Int) / 16777216), .int .u8 ((c : Int) / 65536 % 256), .int .u8 ((c : Int) / 256 % 256), .int .u8 ((c : Int) % 256)] 5)).cell? ((⟨w.heap.size, 0, none⟩ : Addr).add j) = some (.int .u8 ((fourL c)[j].toNat : Int)) := by
  intro j hj
  have h : (w.alloc (.cells #[.int .u8 ((c : Int) / 16777216), .int .u8 ((c : Int) / 65536 % 256), .int .u8 ((c : Int) / 256 % 256), .int .u8 ((c : Int) % 256)] 5)).heap[w.heap.size]? = some (.cells #[.int .u8 ((c : Int) / 16777216), .int .u8 ((c : Int) / 65536 % 256), .int .u8 ((c : Int) / 256 % 256), .int .u8 ((c : Int) % 256)] 5 (0, 0)) := by
    show (w.heap.push _)[w.heap.size]? = _
    simp
  have hj4 : j < 4 := hj
  rw [Addr.add_lit]
  unfold World.cell?
  rw [h]
  match j, hj4 with
  | 0, _ => simp [fourL]; omega
  | 1, _ => simp [fourL]
  | 2, _ => simp [fourL]
  | 3, _ => simp [fourL]
set_option maxHeartbeats 400000 in
theorem four_any (c : Nat) (w : World) (hc : c < 4294967296) :
    Calls Tryd.prog 49 #[.int .u32 c] w fun e w' => e = .returned (.string (fourB c)) ∧ Below w.heap.size w w' := by
  have hcv := run_convert_bytes_back (P := Tryd.prog) (w.alloc (.cells #[.int .u8 ((c : Int) / 16777216), .int .u8 ((c : Int) / 65536 % 256), .int .u8 ((c : Int) / 256 % 256), .int .u8 ((c : Int) % 256)] 5)) 75 9 5 ⟨w.heap.size, 0, none⟩ 4 (fourL c) Tryd.underlying75 Tryd.underlying5 Tryd.underlying9 (four_cells c w hc)
  rw [show (fourL c).length = 4 from rfl] at hcv
  go_enter Tryd.func49, Tryd.ntmps49
  go_wp2
  go_ret
  exact ⟨rfl, (Below.refl _ _).alloc (Nat.le_refl _) _⟩
theorem mk_size (l : List UInt8) : (⟨l.toArray⟩ : ByteArray).size = l.length := rfl
/-- A frame: how long the text is, the sum of that and the text, the text. -/
def numB (s : ByteArray) : ByteArray := ⟨(putL (s.size : Int)).toArray⟩
def frameB (s : ByteArray) : ByteArray := numB s ++ fourB (addOf 0 (numB s ++ s).data.toList) ++ s
theorem numB_size (s : ByteArray) : (numB s).size ≤ 9 := by
  have h := putL_len (s.size : Int)
  have h2 := lenOf_bd (s.size : Int)
  have : (numB s).size = (putL (s.size : Int)).length := mk_size _
  omega
def putR (s : ByteArray) : ByteArray × Int := if 65536 < s.size then (⟨#[]⟩, 3) else (frameB s, 0)
def putV (r : ByteArray × Int) : Value := .tuple #[.string r.1, .int .i64 r.2]

set_option maxRecDepth 100000 in
set_option maxHeartbeats 800000 in
theorem put_frame (s : ByteArray) (w : World) (ht : Tab w) (hs : s.size ≤ 140737488351232) :
    Calls Tryd.prog 32 #[.string s] w fun e w' => e = .returned (putV (putR s)) ∧ Below w.heap.size w w' := by
  by_cases h : 65536 < s.size
  · have HR := Lib.hid (show putR s = (⟨#[]⟩, 3) from if_pos h)
    rw [HR.out]
    clear ht
    go_enter Tryd.func32, Tryd.ntmps32
    go_wp2
    go_ret2
    exact ⟨rfl, Below.refl _ _⟩
  · have HR := Lib.hid (show putR s = (frameB s, 0) from if_neg h)
    rw [HR.out]
    have HT := Lib.hid ht
    have hnb := numB_size s
    have hsz : (numB s ++ s).size ≤ 9223372036854775807 := by rw [ByteArray.size_append]; omega
    have hn2 : ¬ (9223372036854775807 < (numB s).size + s.size) := by omega
    have hf4 : ∀ c, (fourB c).size = 4 := fun _ => rfl
    have hn3 : ¬ (9223372036854775807 < (numB s).size + (fourB (addOf 0 (numB s ++ s).data.toList)).size) := by rw [hf4]; omega
    have hn4 : ¬ (9223372036854775807 < (numB s ++ fourB (addOf 0 (numB s ++ s).data.toList)).size + s.size) := by rw [ByteArray.size_append, hf4]; omega
    obtain ⟨C, hC⟩ : ∃ C, addOf 0 (numB s ++ s).data.toList = C := ⟨_, rfl⟩
    have hCl : C < 4294967296 := by rw [← hC]; exact addOf_lt _ _
    rw [hC] at hn3 hn4
    have HF : Hid (frameB s = numB s ++ fourB C ++ s) := Lib.hid (by rw [← hC]; rfl)
    have HC := Lib.hid hC; have HSZ := Lib.hid hsz
    clear hC hsz hf4 ht
    have hwu : IntKind.u64.wrap (s.size : Int) = (s.size : Int) := u64_nonneg (by omega) (by omega)
    go_enter Tryd.func32, Tryd.ntmps32
    go_wp2_with fail
    refine (put_any (s.size : Int) _ (by omega) (by omega)).mono ?_
    rintro e w1 ⟨rfl, hb1⟩
    have HB1 := Lib.hid hb1; have HT1 := Lib.hid (HT.out.below hb1)
    clear hb1
    obtain ⟨nb, hnbe⟩ : ∃ nb, nb = numB s := ⟨_, rfl⟩
    have e1 : (⟨(putL (s.size : Int)).toArray⟩ : ByteArray) = nb := by rw [hnbe]; rfl
    rw [e1]
    rw [← hnbe] at hnb HSZ hn2 hn3 hn4 HC HF
    clear e1 hnbe hwu
    go_wp2_with fail
    refine (sum_is _ C _ HC.out HT1.out HSZ.out).mono ?_
    rintro e w2 ⟨rfl, rfl⟩
    go_wp2_with fail
    refine (four_any C _ hCl).mono ?_
    rintro e w2 ⟨rfl, hb2⟩
    have HB2 := Lib.hid (HB1.out.trans (hb2.mono HB1.out.size))
    clear hb2
    go_wp2
    go_ret2
    exact ⟨by rw [HF.out]; rfl, HB2.out⟩
end Go.Proofs.YtfiplhnplmadmaaDoor

/- Texts cut and put together: runs as equations. Conditions: none. -/
namespace Go.Proofs.YtfiplhnplmadmaaDoor
open Go.RowKit

theorem slice_run (s : ByteArray) (i j : Nat) (I J : Int) (hI : I = (i : Int)) (hJ : J = (j : Int)) (hij : i ≤ j) (hj : j ≤ s.size) (w : World) :
    (Instr.slice 9 (.string s) (some (.int .i64 I)) (some (.int .i64 J)) none).run Tryd.prog w = .ok (.string (s.extract i j)) w := by
  subst hI hJ
  rw [run_slice_string_if w 9 s .i64 .i64 (i : Int) (j : Int) Tryd.underlying9, if_pos ⟨by omega, by omega⟩, if_pos ⟨by omega, by omega⟩]
  simp
theorem concat_run (x y : ByteArray) (h : x.size + y.size ≤ 9223372036854775807) (w : World) : (Op.stringOp .add x y).run Tryd.prog w = .ok (.string (x ++ y)) w := run_string_add_sum w x y h
end Go.Proofs.YtfiplhnplmadmaaDoor

/- Package frame, and the document's own: Next. Conditions: the table reads as it is laid. -/
namespace Go.Proofs.YtfiplhnplmadmaaDoor
open Go.RowKit Go.PlainAid

def sumAt (s : ByteArray) (a b n : Nat) : Nat := addOf 0 (s.extract a b ++ s.extract (b + 4) (b + 4 + n)).data.toList
def nextG (s : ByteArray) (a b n : Nat) : ByteArray × Int × Int :=
  if 65536 < n then (⟨#[]⟩, 0, 3) else if s.size < b + (4 + n) then (⟨#[]⟩, 0, 2)
  else if ((fourB (sumAt s a b n)).toList == (s.extract b (b + 4)).toList) = true then (s.extract (b + 4) (b + 4 + n), ((b + 4 + n : Nat) : Int), 0) else (⟨#[]⟩, 0, 9)
def nextR (s : ByteArray) (a : Int) : ByteArray × Int × Int :=
  if (getR s a).2.2 = 0 then nextG s a.toNat (getR s a).2.1.toNat (getR s a).1.toNat else (⟨#[]⟩, 0, (getR s a).2.2)
def nextV (r : ByteArray × Int × Int) : Value := .tuple #[.string r.1, .int .i64 r.2.1, .int .i64 r.2.2]
def St (w wr : World) : Prop := Tab wr ∧ Below w.heap.size w wr
theorem St.below {w w1 w2 : World} (h : St w w1) (hb : Below w1.heap.size w1 w2) : St w w2 := ⟨h.1.below hb, h.2.trans (hb.mono h.2.size)⟩
theorem St.tab {w wr : World} (h : St w wr) : Tab wr := h.1
theorem St.since {w wr : World} (h : St w wr) : Below w.heap.size w wr := h.2
theorem St.start {w : World} (h : Tab w) : St w w.drew := ⟨h, (Below.refl _ _).drew⟩
theorem getR_nat (s : ByteArray) (a : Int) (h : (getR s a).2.2 = 0) : ∃ k : Nat, a = k := by
  refine ⟨a.toNat, ?_⟩
  by_cases h1 : a < 0 ∨ (s.size : Int) < a
  · rw [show getR s a = (0, 0, 1) from if_pos h1] at h; simp at h
  · omega

set_option maxRecDepth 100000 in
set_option maxHeartbeats 1600000 in
theorem next_err (s : ByteArray) (a : Int) (w : World) (hs : s.size ≤ 281474976710656) (h : ¬ (getR s a).2.2 = 0) :
    Calls Tryd.prog 64 #[.string s, .int .i64 a] w fun e w' => e = .returned (nextV (nextR s a)) ∧ Below w.heap.size w w' := by
  have HR := Lib.hid (show nextR s a = (⟨#[]⟩, 0, (getR s a).2.2) from if_neg h)
  rw [HR.out]
  obtain ⟨⟨n, b, e⟩, hg⟩ : ∃ g, g = getR s a := ⟨_, rfl⟩
  rw [← hg] at h ⊢
  have HG := Lib.hid hg.symm
  have hne : (e != 0) = true := by simpa using h
  clear hg h
  go_enter Tryd.func64, Tryd.ntmps64
  go_wp2_with fail
  refine (get_any s a _ (by omega)).mono ?_
  rintro e w1 ⟨rfl, rfl⟩
  rw [HG.out]
  unfold getV
  go_wp2
  go_ret3
  exact ⟨rfl, Below.refl _ _⟩
set_option maxRecDepth 100000 in
set_option maxHeartbeats 1600000 in
theorem next_good (s : ByteArray) (a b n : Nat) (w : World) (ht : Tab w) (hs : s.size ≤ 281474976710656) (h : getR s a = ((n : Int), (b : Int), 0)) (hab : a < b) (hbs : b ≤ s.size) (hn : n < 18446744073709551616) :
    Calls Tryd.prog 64 #[.string s, .int .i64 a] w fun e w' => e = .returned (nextV (nextG s a b n)) ∧ Below w.heap.size w w' := by
  have HG := Lib.hid h; have HT := Lib.hid ht
  clear h ht
  by_cases hbig : 65536 < n
  · have HR := Lib.hid (show nextG s a b n = (⟨#[]⟩, 0, 3) from if_pos hbig)
    rw [HR.out]
    go_enter Tryd.func64, Tryd.ntmps64
    go_wp2_with fail
    refine (get_any s a _ (by omega)).mono ?_
    rintro e w1 ⟨rfl, rfl⟩
    rw [HG.out]
    unfold getV
    go_wp2
    go_ret3
    exact ⟨rfl, Below.refl _ _⟩
  by_cases hsh : s.size < b + (4 + n)
  · have HR := Lib.hid (show nextG s a b n = (⟨#[]⟩, 0, 2) from by unfold nextG; rw [if_neg hbig, if_pos hsh])
    rw [HR.out]
    have hi : (s.size : Int) - (b : Int) < 4 + (n : Int) := by omega
    go_enter Tryd.func64, Tryd.ntmps64
    go_wp2_with fail
    refine (get_any s a _ (by omega)).mono ?_
    rintro e w1 ⟨rfl, rfl⟩
    rw [HG.out]
    unfold getV
    go_wp2
    go_ret3
    exact ⟨rfl, Below.refl _ _⟩
  have hi : ¬ ((s.size : Int) - (b : Int) < 4 + (n : Int)) := by omega
  have hR : nextG s a b n = if ((fourB (sumAt s a b n)).toList == (s.extract b (b + 4)).toList) = true then (s.extract (b + 4) (b + 4 + n), ((b + 4 + n : Nat) : Int), 0) else (⟨#[]⟩, 0, 9) := by unfold nextG; rw [if_neg hbig, if_neg hsh]
  have HR := Lib.hid hR
  obtain ⟨C, hC⟩ : ∃ C, addOf 0 (s.extract a b ++ s.extract (b + 4) (b + 4 + n)).data.toList = C := ⟨_, rfl⟩
  have hCl : C < 4294967296 := by rw [← hC]; exact addOf_lt _ _
  have hsz : (s.extract a b ++ s.extract (b + 4) (b + 4 + n)).size ≤ 9223372036854775807 := by rw [ByteArray.size_append, ByteArray.size_extract, ByteArray.size_extract]; omega
  have hsl1 := slice_run s a b a b rfl rfl (by omega) (by omega)
  have hsl2 := slice_run s b (b + 4) b ((b : Int) + 4) rfl (by omega) (by omega) (by omega)
  have hcat := concat_run (s.extract a b) (s.extract (b + 4) (b + 4 + n)) (by rw [ByteArray.size_append] at hsz; exact hsz)
  have HC := Lib.hid hC; have HSZ := Lib.hid hsz
  have HS : Hid (sumAt s a b n = C) := Lib.hid hC
  clear hC hR hsz
  go_enter Tryd.func64, Tryd.ntmps64
  go_wp2_with fail
  refine (get_any s a _ (by omega)).mono ?_
  rintro e w1 ⟨rfl, rfl⟩
  rw [HG.out]
  unfold getV
  go_wp2_with fail
  go_region_held3 (fun w' => St w w') (first | exact St.start HT.out | exact St.below (by assumption) hb8 | assumption) (first | (go_at_call 50; have ht9 : Tab _ := St.tab (by assumption : St w _); (with_reducible refine (sum_is _ C _ HC.out ht9 HSZ.out).mono ?_); rintro e w7 ⟨rfl, rfl⟩) | (go_at_call 49; (with_reducible refine (four_any C _ hCl).mono ?_); rintro e w8 ⟨rfl, hb8⟩))
  have hq : Below w.heap.size w _ := St.since (by assumption)
  go_wp2
  · have hway : (!(fourB C).toList == (s.extract b (b + 4)).toList) = true := by assumption
    have HV : Hid (nextG s a b n = (⟨#[]⟩, 0, 9)) := Lib.hid (by
      rw [HR.out, HS.out]
      rw [if_neg (by intro h; rw [h] at hway; simp at hway)])
    go_ret3
    exact ⟨by rw [HV.out]; rfl, hq⟩
  · have hway : (!(fourB C).toList == (s.extract b (b + 4)).toList) = false := by assumption
    have HV : Hid (nextG s a b n = (s.extract (b + 4) (b + 4 + n), ((b + 4 + n : Nat) : Int), 0)) := Lib.hid (by
      rw [HR.out, HS.out]
      rw [if_pos (by cases h : ((fourB C).toList == (s.extract b (b + 4)).toList) with | true => rfl | false => rw [h] at hway; simp at hway)])
    go_ret3
    exact ⟨by rw [HV.out]; rfl, hq⟩
theorem next_any (s : ByteArray) (a : Int) (w : World) (ht : Tab w) (hs : s.size ≤ 281474976710656) :
    Calls Tryd.prog 64 #[.string s, .int .i64 a] w fun e w' => e = .returned (nextV (nextR s a)) ∧ Below w.heap.size w w' := by
  by_cases h : (getR s a).2.2 = 0
  · obtain ⟨k, rfl⟩ := getR_nat s a h
    obtain ⟨h1, h2, h3, h4⟩ := getR_go s k h
    have hR : nextR s k = nextG s k (getR s k).2.1.toNat (getR s k).1.toNat := if_pos h
    rw [hR]
    refine next_good s k _ _ w ht hs ?_ (by omega) (by omega) (by omega)
    rw [Int.toNat_of_nonneg h3, Int.toNat_of_nonneg (by omega), ← h]
  · exact next_err s a w hs h
end Go.Proofs.YtfiplhnplmadmaaDoor

/- The sum as plain mathematics: a row of bits that is turned. Conditions: none. -/
namespace Go.Proofs.YtfiplhnplmadmaaDoor

/-- The bits of the pattern that were turned in the first i rounds; the first one is always. -/
def turned (p : Nat) : Nat → Nat
  | 0 => 0
  | i + 1 => if i = 0 ∨ p.testBit i = true then turned p i ^^^ 2 ^ i else turned p i
end Go.Proofs.YtfiplhnplmadmaaDoor

/- A frame among other bytes: what Next answers; texts as lists. Conditions: none. -/
namespace Go.Proofs.YtfiplhnplmadmaaDoor
open Go.RowKit Go.PlainAid

theorem bytes_eq {a b : ByteArray} (h : a.data.toList = b.data.toList) : a = b := by
  apply ByteArray.ext
  exact Array.toList_inj.1 h
theorem ext_list (x : ByteArray) (i j : Nat) : (x.extract i j).data.toList = (x.data.toList.take j).drop i := by
  simp [ByteArray.data_extract, List.drop_take]
theorem list_len (x : ByteArray) : x.data.toList.length = x.size := by simp
theorem app_list (x y : ByteArray) : (x ++ y).data.toList = x.data.toList ++ y.data.toList := by rw [ByteArray.data_append, Array.toList_append]
theorem mid_extract (p m q : ByteArray) : (p ++ m ++ q).extract p.size (p.size + m.size) = m := by
  apply bytes_eq
  rw [ext_list, app_list, app_list]
  have hp := list_len p; have hm := list_len m
  rw [List.take_append_of_le_length (by rw [List.length_append]; omega), List.take_of_length_le (by rw [List.length_append]; omega), List.drop_append_of_le_length (by omega), List.drop_of_length_le (by omega), List.nil_append]
theorem loop_list (bs : ByteArray) : ∀ (k i : Nat) (r : List UInt8), bs.size - i = k → ByteArray.toList.loop bs i r = r.reverse ++ bs.data.toList.drop i
  | 0, i, r, h => by
    unfold ByteArray.toList.loop
    rw [if_neg (by omega), List.drop_of_length_le (by rw [list_len]; omega), List.append_nil]
  | k + 1, i, r, h => by
    unfold ByteArray.toList.loop
    have hi : i < bs.size := by omega
    have hl : i < bs.data.toList.length := by rw [list_len]; exact hi
    rw [if_pos hi, loop_list bs k (i + 1) _ (by omega), List.reverse_cons, List.append_assoc, List.drop_eq_getElem_cons hl]
    congr 2
    simp [ByteArray.get!, hi]
theorem toList_data (bs : ByteArray) : bs.toList = bs.data.toList := by
  unfold ByteArray.toList
  rw [loop_list bs bs.size 0 [] rfl]
  simp
theorem toList_beq (a b : ByteArray) : ((a.toList == b.toList) = true) ↔ a = b := by
  rw [beq_iff_eq, toList_data, toList_data]
  exact ⟨fun h => bytes_eq h, fun h => by rw [h]⟩
theorem app_assoc (x y z : ByteArray) : x ++ y ++ z = x ++ (y ++ z) := ByteArray.append_assoc

/-- What Next answers where a number, four bytes and a text stand. -/
theorem next_parts (pre s four post : ByteArray) (h4 : four.size = 4) (n : Nat) (hn : n = s.size) (hs : n ≤ 65536) :
    nextR (pre ++ ⟨(putL (n : Int)).toArray⟩ ++ four ++ s ++ post) (pre.size : Int) = if fourB (addOf 0 ((⟨(putL (n : Int)).toArray⟩ : ByteArray) ++ s).data.toList) = four then (s, ((pre.size + (putL (n : Int)).length + 4 + n : Nat) : Int), 0) else (⟨#[]⟩, 0, 9) := by
  subst hn
  obtain ⟨nb, hnb⟩ : ∃ nb : ByteArray, nb = ⟨(putL (s.size : Int)).toArray⟩ := ⟨_, rfl⟩
  have hnl : nb.size = (putL (s.size : Int)).length := by rw [hnb]; exact mk_size _
  have hsz : (pre ++ nb ++ four ++ s ++ post).size = pre.size + nb.size + 4 + s.size + post.size := by
    simp only [ByteArray.size_append]; omega
  have hhas : has (pre ++ nb ++ four ++ s ++ post) pre.size (putL (s.size : Int)) := by
    rw [app_assoc, app_assoc, hnb]
    exact has_mid pre _ _
  have hg := get_put (s := pre ++ nb ++ four ++ s ++ post) (a := pre.size) (s.size : Int) (by omega) (by omega) (by rw [hsz, ← hnl]; omega) hhas
  have hll := putL_len (s.size : Int)
  have hlb := lenOf_bd (s.size : Int)
  rw [← hnb]
  have hR : nextR (pre ++ nb ++ four ++ s ++ post) (pre.size : Int) = nextG (pre ++ nb ++ four ++ s ++ post) pre.size (pre.size + nb.size) s.size := by
    have t1 : ((pre.size : Nat) : Int).toNat = pre.size := by omega
    have t2 : (((pre.size : Nat) : Int) + lenOf (s.size : Int)).toNat = pre.size + nb.size := by rw [hnl]; omega
    have t3 : ((s.size : Nat) : Int).toNat = s.size := by omega
    unfold nextR
    rw [hg]
    show (if (0 : Int) = 0 then nextG _ ((pre.size : Nat) : Int).toNat (((pre.size : Nat) : Int) + lenOf (s.size : Int)).toNat ((s.size : Nat) : Int).toNat else _) = _
    rw [if_pos rfl, t1, t2, t3]
  rw [hR]
  unfold nextG
  rw [if_neg (by omega), if_neg (by rw [hsz]; omega)]
  have e1 : (pre ++ nb ++ four ++ s ++ post).extract pre.size (pre.size + nb.size) = nb := by
    rw [app_assoc, app_assoc]; exact mid_extract pre nb _
  have e2 : (pre ++ nb ++ four ++ s ++ post).extract (pre.size + nb.size) (pre.size + nb.size + 4) = four := by
    rw [app_assoc]
    have := mid_extract (pre ++ nb) four (s ++ post)
    rw [ByteArray.size_append, h4] at this
    exact this
  have e3 : (pre ++ nb ++ four ++ s ++ post).extract (pre.size + nb.size + 4) (pre.size + nb.size + 4 + s.size) = s := by
    have := mid_extract (pre ++ nb ++ four) s post
    rw [ByteArray.size_append, ByteArray.size_append, h4] at this
    exact this
  have e4 : sumAt (pre ++ nb ++ four ++ s ++ post) pre.size (pre.size + nb.size) s.size = addOf 0 (nb ++ s).data.toList := by
    unfold sumAt; rw [e1, e3]
  rw [e4, e2, e3]
  by_cases h : fourB (addOf 0 (nb ++ s).data.toList) = four
  · rw [if_pos ((toList_beq _ _).2 h), if_pos h, hnl]
  · rw [if_neg (fun h2 => h ((toList_beq _ _).1 h2)), if_neg h]
theorem frameB_parts (s : ByteArray) : frameB s = ⟨(putL (s.size : Int)).toArray⟩ ++ fourB (addOf 0 (numB s ++ s).data.toList) ++ s := rfl
theorem frameB_size (s : ByteArray) : (frameB s).size = (putL (s.size : Int)).length + 4 + s.size := by
  rw [frameB_parts, ByteArray.size_append, ByteArray.size_append, mk_size]; rfl
/-- A frame, whatever stands ahead and behind. -/
theorem next_frame (pre s post : ByteArray) (hs : s.size ≤ 65536) : nextR (pre ++ frameB s ++ post) (pre.size : Int) = (s, ((pre.size + (frameB s).size : Nat) : Int), 0) := by
  have h := next_parts pre s (fourB (addOf 0 (numB s ++ s).data.toList)) post rfl s.size rfl hs
  have h2 := h.trans (if_pos rfl)
  rw [frameB_size, frameB_parts, ← app_assoc, ← app_assoc, h2, show pre.size + ((putL (s.size : Int)).length + 4 + s.size) = pre.size + (putL (s.size : Int)).length + 4 + s.size by omega]
end Go.Proofs.YtfiplhnplmadmaaDoor

/- A block of bytes of the call's own, and its text. Conditions: none. -/
namespace Go.Proofs.YtfiplhnplmadmaaDoor
open Go.RowKit

/-- Block b begins with the bytes f 0 .. f (n - 1); they may be written. -/
def Bytes (w : World) (b n : Nat) (f : Nat → UInt8) : Prop := ∀ j, j < n → w.cell? ⟨b, j, none⟩ = some (.int .u8 (f j).toNat) ∧ w.frozen? ⟨b, j, none⟩ = false
theorem Bytes.set {w : World} {b n : Nat} {f : Nat → UInt8} (h : Bytes w b n f) {i : Nat} (hi : i < n) (y : UInt8) : Bytes (w.setCell ⟨b, i, none⟩ (.int .u8 y.toNat)) b n (fun j => if j = i then y else f j) := by
  intro j hj
  refine ⟨?_, by rw [World.frozen?_setCell]; exact (h j hj).2⟩
  by_cases e : j = i
  · subst e
    rw [World.cell?_setCell_same _ _ _ (h j hi).1]
    show _ = some (Value.int .u8 ((if j = j then y else f j : UInt8).toNat : Nat))
    rw [if_pos rfl]
  · rw [World.cell?_setCell_other _ _ _ _ (by first | (simp; done) | (simp; omega))]
    show _ = some (Value.int .u8 ((if j = i then y else f j : UInt8).toNat : Nat))
    rw [if_neg e]; exact (h j hj).1
theorem Bytes.congr {w : World} {b n : Nat} {f g : Nat → UInt8} (h : Bytes w b n f) (hg : ∀ j, j < n → f j = g j) : Bytes w b n g := fun j hj => by rw [← hg j hj]; exact h j hj
theorem Bytes.below {w w' : World} {b n : Nat} {f : Nat → UInt8} (h : Bytes w b n f) (hb : Below w.heap.size w w') : Bytes w' b n f := fun j hj =>
  ⟨cell_below hb (h j hj).1, by rw [hb.frozen (World.block_lt_of_cell? w _ (h j hj).1)]; exact (h j hj).2⟩
theorem strOfNums_bytes (l : List UInt8) : strOfNums (l.map fun b => ((b.toNat : Nat) : Int)) = ⟨l.toArray⟩ := by
  apply ByteArray.ext
  apply Array.toList_inj.1
  rw [strOfNums_data, List.map_map]
  show _ = l
  have : ((fun n : Int => UInt8.ofNat n.toNat) ∘ fun b : UInt8 => ((b.toNat : Nat) : Int)) = id := by
    funext b
    simp
  rw [this, List.map_id]
/-- The text of such a block. -/
theorem Bytes.text {w : World} {b n cap : Nat} {f : Nat → UInt8} (h : Bytes w b n f) {P : Program} {src dst e : TypeId} (hs : P.underlying src = some (.slice e)) (he : P.underlying e = some (.int .u8)) (hd : P.underlying dst = some .string) :
    (convert src dst (.slice (some ⟨b, 0, none⟩) n cap)).run P w = .ok (.string ⟨((List.range n).map f).toArray⟩) w := by
  rw [← strOfNums_bytes]
  refine run_convert_bytes_arg w src e hs he b 0 n cap _ (by simp) (fun i hi => ?_) dst hd
  rw [Nat.zero_add, (h i hi).1]
  simp [List.getD, hi]
end Go.Proofs.YtfiplhnplmadmaaDoor

/- Frames one behind the other, in numbers. No conditions. -/
namespace Go.Proofs.YtfiplhnplmadmaaDoor
open Go.RowKit

/-- l are the texts of the frames from a on, b is the place behind them. -/
def Run (s : ByteArray) : Int → List ByteArray → Int → Prop
  | a, [], b => b = a
  | a, t :: l, b => a < (s.size : Int) ∧ (nextR s a).2.2 = 0 ∧ t = (nextR s a).1 ∧ Run s (nextR s a).2.1 l b
/-- What is told where it stops. -/
def Ends (s : ByteArray) (b e : Int) : Prop := ((s.size : Int) ≤ b ∧ e = 0) ∨ (b < (s.size : Int) ∧ e = (nextR s b).2.2 ∧ e ≠ 0)
theorem Run.snoc {s : ByteArray} : ∀ {l : List ByteArray} {a b : Int}, Run s a l b → b < (s.size : Int) → (nextR s b).2.2 = 0 → Run s a (l ++ [(nextR s b).1]) (nextR s b).2.1
  | [], a, b, h, h1, h2 => by
    obtain rfl : b = a := h
    exact ⟨h1, h2, rfl, rfl⟩
  | t :: l, a, b, h, h1, h2 => ⟨h.1, h.2.1, h.2.2.1, Run.snoc h.2.2.2 h1 h2⟩
theorem run_det {s : ByteArray} : ∀ {l l' : List ByteArray} {a b b' e e' : Int}, Run s a l b → Ends s b e → Run s a l' b' → Ends s b' e' → l = l' ∧ b = b' ∧ e = e'
  | [], [], a, b, b', e, e', h, k, h', k' => by
    obtain rfl : b = a := h
    obtain rfl : b' = b := h'
    refine ⟨rfl, rfl, ?_⟩
    rcases k with ⟨k1, k2⟩ | ⟨k1, k2, k3⟩ <;> rcases k' with ⟨j1, j2⟩ | ⟨j1, j2, j3⟩ <;> omega
  | [], t :: l', a, b, b', e, e', h, k, h', k' => by
    obtain rfl : b = a := h
    obtain ⟨g1, g2, _, _⟩ := h'
    rcases k with ⟨k1, k2⟩ | ⟨k1, k2, k3⟩ <;> omega
  | t :: l, [], a, b, b', e, e', h, k, h', k' => by
    obtain rfl : b' = a := h'
    obtain ⟨g1, g2, _, _⟩ := h
    rcases k' with ⟨k1, k2⟩ | ⟨k1, k2, k3⟩ <;> omega
  | t :: l, t' :: l', a, b, b', e, e', h, k, h', k' => by
    obtain ⟨g1, g2, rfl, g4⟩ := h
    obtain ⟨f1, f2, rfl, f4⟩ := h'
    obtain ⟨r1, r2, r3⟩ := run_det g4 k f4 k'
    exact ⟨by rw [r1], r2, r3⟩
theorem next_adv (s : ByteArray) (a : Int) (h : (nextR s a).2.2 = 0) : 0 ≤ a ∧ a + 4 < (nextR s a).2.1 ∧ (nextR s a).2.1 ≤ (s.size : Int) := by
  by_cases hg : (getR s a).2.2 = 0
  · obtain ⟨k, rfl⟩ := getR_nat s a hg
    obtain ⟨h1, h2, h3, h4⟩ := getR_go s k hg
    have hR : nextR s k = nextG s k (getR s k).2.1.toNat (getR s k).1.toNat := if_pos hg
    rw [hR] at h ⊢
    unfold nextG at h ⊢
    split at h
    · simp at h
    · rename_i hn
      rw [if_neg hn]
      split at h
      · simp at h
      · rename_i hsz
        rw [if_neg hsz]
        split at h
        · rename_i hq
          rw [if_pos hq]
          refine ⟨by omega, ?_, ?_⟩
          · show (k : Int) + 4 < (((getR s k).2.1.toNat + 4 + (getR s k).1.toNat : Nat) : Int)
            omega
          · show (((getR s k).2.1.toNat + 4 + (getR s k).1.toNat : Nat) : Int) ≤ _
            omega
        · simp at h
  · rw [show nextR s a = (⟨#[]⟩, 0, (getR s a).2.2) from if_neg hg] at h
    exact absurd h hg
theorem Run.bound {s : ByteArray} : ∀ {l : List ByteArray} {a b : Int}, Run s a l b → 0 ≤ a → a ≤ (s.size : Int) → a + l.length ≤ b ∧ b ≤ (s.size : Int)
  | [], a, b, h, h0, h1 => by
    obtain rfl : b = a := h
    exact ⟨by simp, h1⟩
  | t :: l, a, b, h, h0, h1 => by
    obtain ⟨g1, g2, _, g4⟩ := h
    obtain ⟨n1, n2, n3⟩ := next_adv s a g2
    obtain ⟨m1, m2⟩ := Run.bound g4 (by omega) n3
    refine ⟨?_, m2⟩
    rw [List.length_cons]; omega
end Go.Proofs.YtfiplhnplmadmaaDoor

/- Frames of which the last is cut off, in numbers. No conditions. -/
namespace Go.Proofs.YtfiplhnplmadmaaDoor
open Go.RowKit Go.PlainAid

theorem two_parts {q : ByteArray} {l m : List UInt8} (h : q.data.toList = l ++ m) : q = ⟨l.toArray⟩ ++ ⟨m.toArray⟩ := by
  apply bytes_eq
  rw [app_list, h]
theorem frameB_list (s : ByteArray) : (frameB s).data.toList = putL (s.size : Int) ++ ((fourB (addOf 0 (numB s ++ s).data.toList)).data.toList ++ s.data.toList) := by
  rw [frameB_parts, app_list, app_list, List.append_assoc]
theorem next_torn (pre q x : ByteArray) (hx : x.size ≤ 65536) (hq : q.data.toList <+: (frameB x).data.toList) (h0 : 0 < q.size) (hlt : q.size < (frameB x).size) : (nextR (pre ++ q) (pre.size : Int)).2.2 = 2 := by
  have hfs := frameB_size x
  have hsz : (pre ++ q).size = pre.size + q.size := ByteArray.size_append
  have hql := list_len q
  rw [frameB_list] at hq
  have hpl := putL_len (x.size : Int)
  have hw := wd_bd (x.size : Int)
  by_cases hk : q.size < (putL (x.size : Int)).length
  · -- the number itself is cut off
    have hn : ¬ (x.size : Int) < 248 := by
      intro h
      have : (putL (x.size : Int)).length = 1 := by rw [putL_small _ h]; rfl
      omega
    have hpre : q.data.toList <+: putL (x.size : Int) := by
      obtain ⟨r, hr⟩ := hq
      refine List.prefix_of_prefix_length_le ⟨r, hr⟩ (List.prefix_append _ _) (by omega)
    have hb := putL_big (x.size : Int) hn
    have hlen : (putL (x.size : Int)).length = 1 + (wd (x.size : Int)).toNat := by rw [hb]; simp [be_len]; omega
    rw [hb] at hpre
    have hqc : ∃ q', q.data.toList = [UInt8.ofNat (247 + wd (x.size : Int)).toNat] ++ q' := by
      cases hql' : q.data.toList with
      | nil => rw [hql'] at hql; simp at hql; omega
      | cons b t =>
        rw [hql'] at hpre
        obtain ⟨r, hr⟩ := hpre
        simp only [List.cons_append, List.cons.injEq] at hr
        exact ⟨t, by rw [hr.1]; rfl⟩
    obtain ⟨q', hq'⟩ := hqc
    have hhas := has_mid pre ⟨q'.toArray⟩ [UInt8.ofNat (247 + wd (x.size : Int)).toNat]
    rw [app_assoc, ← two_parts hq'] at hhas
    have hbt := hhas 0 (by simp)
    simp only [Nat.add_zero, List.getElem_cons_zero, UInt8.toNat_ofNat', show (2 : Nat) ^ 8 = 256 from rfl] at hbt
    have hg : getR (pre ++ q) (pre.size : Int) = (0, 0, 2) := by
      unfold getR
      rw [if_neg (by omega), if_neg (by omega), Int.toNat_natCast, if_neg (by omega), if_pos (by omega)]
    rw [show nextR (pre ++ q) (pre.size : Int) = (⟨#[]⟩, 0, (getR (pre ++ q) (pre.size : Int)).2.2) from if_neg (by rw [hg]; simp), hg]
  · -- the number is whole
    have hqc : ∃ q', q.data.toList = putL (x.size : Int) ++ q' := by
      obtain ⟨r, hr⟩ := hq
      obtain ⟨t, ht⟩ := List.prefix_of_prefix_length_le (List.prefix_append (putL (x.size : Int)) _) ⟨r, hr⟩ (by omega)
      exact ⟨t, ht.symm⟩
    obtain ⟨q', hq'⟩ := hqc
    have hhas := has_mid pre ⟨q'.toArray⟩ (putL (x.size : Int))
    rw [app_assoc, ← two_parts hq'] at hhas
    have hg := get_put (s := pre ++ q) (a := pre.size) (x.size : Int) (by omega) (by omega) (by omega) hhas
    have hg0 : (getR (pre ++ q) (pre.size : Int)).2.2 = 0 := by rw [hg]
    rw [show nextR (pre ++ q) (pre.size : Int) = nextG (pre ++ q) (pre.size : Int).toNat (getR (pre ++ q) (pre.size : Int)).2.1.toNat (getR (pre ++ q) (pre.size : Int)).1.toNat from if_pos hg0, hg]
    unfold nextG
    rw [if_neg (by simp only [Int.toNat_natCast]; omega), if_pos (by simp only [Int.toNat_natCast]; omega)]
/-- Frames one behind the other. -/
def catF (l : List ByteArray) : ByteArray := l.foldl (fun s x => s ++ frameB x) ⟨#[]⟩
theorem catF_snoc (l : List ByteArray) (x : ByteArray) : catF (l ++ [x]) = catF l ++ frameB x := by simp [catF]
theorem catF_list (l m : List ByteArray) : ∃ r, (catF (l ++ m)).data.toList = (catF l).data.toList ++ r := by
  induction m generalizing l with
  | nil => exact ⟨[], by simp⟩
  | cons x m ih =>
    obtain ⟨r, hr⟩ := ih (l ++ [x])
    exact ⟨(frameB x).data.toList ++ r, by rw [show l ++ x :: m = l ++ [x] ++ m by simp, hr, catF_snoc, app_list, List.append_assoc]⟩
theorem catF_take (l : List ByteArray) (k : Nat) : (catF (l.take k)).data.toList <+: (catF l).data.toList := by
  obtain ⟨r, hr⟩ := catF_list (l.take k) (l.drop k)
  rw [List.take_append_drop] at hr
  exact ⟨r, hr.symm⟩
theorem cut_at {C P S : ByteArray} (hC : C.data.toList <+: S.data.toList) (hP : P.data.toList <+: S.data.toList) (h : P.size ≤ C.size) : ∃ q : ByteArray, C = P ++ q := by
  obtain ⟨r, hr⟩ := List.prefix_of_prefix_length_le hP hC (by rw [list_len, list_len]; exact h)
  exact ⟨⟨r.toArray⟩, bytes_eq (by rw [app_list, ← hr])⟩
theorem take_next {l : List ByteArray} {k : Nat} (h : k < l.length) : catF (l.take (k + 1)) = catF (l.take k) ++ frameB l[k] := by
  rw [List.take_succ_eq_append_getElem h, catF_snoc]
theorem run_cut (l : List ByteArray) (hl : ∀ x ∈ l, x.size ≤ 65536) (C : ByteArray) (hC : C.data.toList <+: (catF l).data.toList) : ∀ k, k ≤ l.length → (catF (l.take k)).size ≤ C.size → Run C 0 (l.take k) ((catF (l.take k)).size : Int)
  | 0, _, _ => by rw [List.take_zero]; exact rfl
  | k + 1, hk, hle => by
    have hk' : k < l.length := hk
    have hn := take_next hk'
    have hsz : (catF (l.take (k + 1))).size = (catF (l.take k)).size + (frameB l[k]).size := by rw [hn, ByteArray.size_append]
    have hf := frameB_size l[k]
    have hrun := run_cut l hl C hC k (by omega) (by omega)
    obtain ⟨q, hq⟩ := cut_at hC (catF_take l (k + 1)) hle
    rw [hn] at hq
    have hnx := next_frame (catF (l.take k)) l[k] q (hl _ (List.getElem_mem hk'))
    rw [← hq] at hnx
    have h := hrun.snoc (by omega) (by rw [hnx])
    rw [hnx] at h
    rw [List.take_succ_eq_append_getElem hk', ← List.take_succ_eq_append_getElem hk', hsz]
    rw [List.take_succ_eq_append_getElem hk']
    exact h
theorem all_cut (l : List ByteArray) (hl : ∀ x ∈ l, x.size ≤ 65536) (C : ByteArray) (hC : C.data.toList <+: (catF l).data.toList) (k : Nat) (hk : k ≤ l.length) (hle : (catF (l.take k)).size ≤ C.size)
    (hlast : k = l.length ∨ C.size < (catF (l.take (k + 1))).size) : Run C 0 (l.take k) ((catF (l.take k)).size : Int) ∧ Ends C ((catF (l.take k)).size : Int) (if (catF (l.take k)).size = C.size then 0 else 2) := by
  refine ⟨run_cut l hl C hC k hk hle, ?_⟩
  by_cases he : (catF (l.take k)).size = C.size
  · rw [if_pos he]; exact .inl ⟨by omega, rfl⟩
  · rw [if_neg he]
    refine .inr ⟨by omega, ?_, by omega⟩
    have hCl : C.size ≤ (catF l).size := by
      have := hC.length_le; rw [list_len, list_len] at this; exact this
    have hk' : k < l.length := by
      rcases Nat.lt_or_ge k l.length with h | h
      · exact h
      · have : l.take k = l := List.take_of_length_le h
        rw [this] at he hle; omega
    have hlt : C.size < (catF (l.take (k + 1))).size := by
      rcases hlast with h | h
      · omega
      · exact h
    obtain ⟨q, hq⟩ := cut_at hC (catF_take l k) hle
    have hn := take_next hk'
    have hpre : C.data.toList <+: (catF (l.take (k + 1))).data.toList := List.prefix_of_prefix_length_le hC (catF_take l (k + 1)) (by rw [list_len, list_len]; omega)
    rw [hn, app_list, hq, app_list] at hpre
    have hqp := (List.prefix_append_right_inj _).1 hpre
    have hqs : C.size = (catF (l.take k)).size + q.size := by rw [hq, ByteArray.size_append]
    have hns : (catF (l.take (k + 1))).size = (catF (l.take k)).size + (frameB l[k]).size := by rw [hn, ByteArray.size_append]
    have := next_torn (catF (l.take k)) q l[k] (hl _ (List.getElem_mem hk')) hqp (by omega) (by omega)
    rw [← hq] at this
    exact this.symm
end Go.Proofs.YtfiplhnplmadmaaDoor

/- Package frame: the iterator of All. Conditions: the table reads as it is laid. -/
namespace Go.Proofs.YtfiplhnplmadmaaDoor
open Go.RowKit Go.Shelf
attribute [local go_sem] Oper.semAt_some

abbrev Fnd := ByteArray × Int × Int
inductive FRun (s : ByteArray) : List Fnd → Int → Prop
  | nil : FRun s [] 0
  | snoc {l : List Fnd} {b : Int} : FRun s l b → b < (s.size : Int) → (nextR s b).2.2 = 0 → FRun s (l ++ [nextR s b]) (nextR s b).2.1
theorem FRun.run {s : ByteArray} {l : List Fnd} {b : Int} (h : FRun s l b) : Run s 0 (l.map fun x => x.1) b := by
  induction h with
  | nil => rfl
  | snoc h1 h2 h3 ih => rw [List.map_append]; exact ih.snoc h2 h3
theorem FRun.bound {s : ByteArray} {l : List Fnd} {b : Int} (h : FRun s l b) : (l.length : Int) ≤ b ∧ b ≤ (s.size : Int) := by
  have h1 := h.run.bound (by omega) (by omega)
  simpa using h1
def encF (x : Fnd) : Value := .agg #[.string x.1, .int .i64 x.2.1, .int .i64 x.2.2]
/-- What a round that goes on keeps. -/
def KpF (n₀ Bn : Nat) (s : ByteArray) (A B : World) : Prop := Below n₀ A B ∧ (A.cell? ⟨Bn, 0, none⟩ = some (.string s) → B.cell? ⟨Bn, 0, none⟩ = some (.string s))
theorem KpF.t {n₀ Bn : Nat} {s : ByteArray} {A B C : World} (h : KpF n₀ Bn s A B) (k : KpF n₀ Bn s B C) : KpF n₀ Bn s A C := ⟨h.1.trans k.1, fun c => k.2 (h.2 c)⟩
theorem KpF.b {n₀ Bn : Nat} {s : ByteArray} {w : World} (hn : n₀ ≤ w.heap.size) (W : World) (l : Nat) (o o' : Obj) (hl : w.heap.size ≤ l) (h : W.heap[l]? = some o) (hc : o.isCells = false) (hw : o.isWalk = false) : KpF n₀ Bn s W (W.putObj l o') :=
  ⟨belowK_b hn W l o o' hl h hc hw, fun c => cell_kept c (grownBy_putObj' W l o') (fun r e => by cases e; exact ⟨_, h, hc⟩)⟩
theorem grown_of_below {w w' : World} (h : Below w.heap.size w w') : w.grownBy w' none := ⟨h.os, h.tape, h.output, h.size, fun k hk _ => h.block k hk⟩
/-- All has come. -/
def AllF (s : ByteArray) (ys : List Fnd) : Prop := (∃ b, FRun s ys b ∧ (s.size : Int) ≤ b) ∨ ∃ ys' b, ys = ys' ++ [nextR s b] ∧ FRun s ys' b ∧ b < (s.size : Int) ∧ (nextR s b).2.2 ≠ 0
def PartF (s : ByteArray) (ys : List Fnd) : Prop := ∃ ys' b, ys = ys' ++ [nextR s b] ∧ FRun s ys' b ∧ b < (s.size : Int)

set_option maxRecDepth 100000 in
set_option maxHeartbeats 2000000 in
theorem iter_in (l Bn n₀ B : Nat) (s : ByteArray) (hs : s.size ≤ 281474976710656) (J Jx : List Fnd → World → Prop) (hJ : AbidesFrom B J)
    (hY : ∀ pre x W, J pre W → pre.length < s.size → YieldAt Fence.wide 1 Tryd.prog l #[encF x] W fun e W' =>
      (e = .returned (.bool true) ∧ J (pre ++ [x]) W' ∧ KpF n₀ Bn s W W') ∨ (e = .returned (.bool false) ∧ Jx (pre ++ [x]) W'))
    (W : World) (hn0 : 0 < n₀) (hBn : W.cell? ⟨Bn, 0, none⟩ = some (.string s)) (ht : Tab W) (h0 : J [] W) :
    CallsIn Fence.wide 2 Tryd.prog 63 #[.func (.yield l) #[] #[], .pointer (some ⟨Bn, 0, none⟩)] W fun e W' => (∃ v, e = .returned v) ∧
      ((∃ ys, AllF s ys ∧ J ys W') ∨ (∃ pre, PartF s pre ∧ Jx pre W')) := by
  refine callsIn_of_wp Tryd.func63 rfl trivial ?_ rfl
  simp only [Tryd.ntmps63, List.size_toArray, List.length_cons, List.length_nil, Nat.reduceAdd, Nat.reduceSub, Array.replicate_succ, Array.replicate_zero, List.push_toArray, List.append_toArray, List.nil_append, List.cons_append]
  have h1 : 1 ≤ (2 : Nat) := by omega
  gi_wp2
  gi_loopw [3] (fun p wr => ∃ (pre : List Fnd) (b : Int), p = .int .i64 b ∧ FRun s pre b ∧ J pre wr ∧ Tab wr ∧ wr.cell? ⟨Bn, 0, none⟩ = some (.string s))
    (fun p wr => s.size - (intOf p).toNat)
  case atStart =>
    exact ⟨[], 0, rfl, .nil, h0, ht, hBn⟩
  case round =>
    obtain ⟨pre, b, rfl, hrun, hJs, htr, hc⟩ := hrel
    obtain ⟨hb1, hb2⟩ := hrun.bound
    by_cases hlt : b < (s.size : Int)
    · obtain ⟨⟨t, nx, e⟩, hr⟩ : ∃ r, nextR s b = r := ⟨_, rfl⟩
      have HR := Lib.hid hr; have HRUN := Lib.hid hrun; have HY := Lib.hid hY; have HJ := Lib.hid hJ
      clear hr hrun hY hJ
      have hlen : pre.length < s.size := by omega
      by_cases he : e = 0
      · subst he
        gi_wp2_with (refine ⟨trivial, ?_⟩; gi_at_call 64; refine (callsIn_wide.2 (next_any s b _ htr (by omega))).mono ?_; rintro e9 w2 ⟨rfl, hb9⟩; rw [HR.out]; unfold nextV; have hJ2 : J pre w2 := HJ.out pre wr w2 none hJs (grown_of_below hb9) (fun _ e => nomatch e); obtain ⟨fn, tmps, assign, body, hy, hR⟩ := HY.out pre (t, nx, 0) w2 hJ2 hlen; dsimp only [encF] at hy)
        refine hR.mono ?_
        rintro e8 W3 (⟨rfl, hJ3, hk3⟩ | ⟨rfl, hJx3⟩)
        · have hr : nextR s b = (t, nx, 0) := HR.out
          have hadv := next_adv s b (by rw [hr])
          rw [hr] at hadv
          obtain ⟨ha1, ha2, ha3⟩ := hadv
          have ha2' : b + 4 < nx := ha2
          have ha3' : nx ≤ (s.size : Int) := ha3
          have hrun3 : FRun s (pre ++ [(t, nx, 0)]) nx := by
            have h := FRun.snoc HRUN.out hlt (by rw [hr])
            rw [hr] at h
            exact h
          have hc2 : w2.cell? ⟨Bn, 0, none⟩ = some (.string s) := (hb9.cell (p := ⟨Bn, 0, none⟩) (World.block_lt_of_cell? wr _ hc)).trans hc
          have ht3 : Tab W3 := (htr.below hb9).since hn0 hk3.1
          have hc3 := hk3.2 hc2
          clear ha1 ha2 ha3
          gi_wp2
          go_roundw
          case rel => exact ⟨pre ++ [(t, nx, 0)], nx, rfl, hrun3, hJ3, ht3, hc3⟩
          case measure =>
            show s.size - nx.toNat < s.size - b.toNat
            omega
        · gi_wp2
          refine bodyPost_ret (results_none rfl _ _ _) rfl ?_
          refine ⟨⟨_, rfl⟩, .inr ⟨pre ++ [(t, nx, 0)], ⟨pre, b, by rw [HR.out], HRUN.out, hlt⟩, hJx3⟩⟩
      · have hne : (e != 0) = true := by simpa using he
        have HE := Lib.hid he; clear he
        gi_wp2_with (refine ⟨trivial, ?_⟩; gi_at_call 64; refine (callsIn_wide.2 (next_any s b _ htr (by omega))).mono ?_; rintro e9 w2 ⟨rfl, hb9⟩; rw [HR.out]; unfold nextV; have hJ2 : J pre w2 := HJ.out pre wr w2 none hJs (grown_of_below hb9) (fun _ e => nomatch e); obtain ⟨fn, tmps, assign, body, hy, hR⟩ := HY.out pre (t, nx, e) w2 hJ2 hlen; dsimp only [encF] at hy)
        refine hR.mono ?_
        rintro e8 W3 (⟨rfl, hJ3, hk3⟩ | ⟨rfl, hJx3⟩)
        · gi_wp2
          refine bodyPost_ret (results_none rfl _ _ _) rfl ?_
          refine ⟨⟨_, rfl⟩, .inl ⟨pre ++ [(t, nx, e)], .inr ⟨pre, b, by rw [HR.out], HRUN.out, hlt, by rw [HR.out]; exact HE.out⟩, hJ3⟩⟩
        · gi_wp2
          refine bodyPost_ret (results_none rfl _ _ _) rfl ?_
          refine ⟨⟨_, rfl⟩, .inr ⟨pre ++ [(t, nx, e)], ⟨pre, b, by rw [HR.out], HRUN.out, hlt⟩, hJx3⟩⟩
    · have hge : ¬ b < (s.size : Int) := hlt
      gi_wp2
      go_end0
      exact ⟨⟨_, rfl⟩, .inl ⟨pre, .inl ⟨b, hrun, by omega⟩, hJs⟩⟩
theorem iter_stops (Bn n₀ : Nat) (s : ByteArray) (hs : s.size ≤ 281474976710656) (w : World) (hBn : Bn < w.heap.size) (hn0 : 0 < n₀) (hc : w.cell? ⟨Bn, 0, none⟩ = some (.string s)) (ht : Tab w) :
    SeqStopsK Fence.wide 2 Tryd.prog 63 #[.pointer (some ⟨Bn, 0, none⟩)] (fun x : Fnd => #[encF x]) (KpF n₀ Bn s) (AllF s) (PartF s) s.size w := fun l J Jx W hW hJ _ hY h0 =>
  iter_in l Bn n₀ W.heap.size s hs J Jx hJ hY W hn0 ((hW.cell (p := ⟨Bn, 0, none⟩) hBn).trans hc) (ht.below hW) h0

set_option maxHeartbeats 800000 in
theorem frames_any (s : ByteArray) (w : World) :
    CallsIn Fence.wide 2 Tryd.prog 47 #[.string s] w fun e w' => e = .returned (.func (.func 63) #[] #[.pointer (some ⟨w.heap.size, 0, none⟩)]) ∧ w' = w.alloc (.cells #[.string s] 9) := by
  refine callsIn_of_wp Tryd.func47 rfl trivial ?_ rfl
  simp only [Tryd.ntmps47, List.size_toArray, List.length_cons, List.length_nil, Nat.reduceAdd, Nat.reduceSub, Array.replicate_succ, Array.replicate_zero, List.push_toArray, List.append_toArray, List.nil_append, List.cons_append]
  gi_wp2
  go_ret
  exact ⟨rfl, rfl⟩
end Go.Proofs.YtfiplhnplmadmaaDoor

/- Slices of texts that came in. Conditions: none. -/
namespace Go.Proofs.YtfiplhnplmadmaaDoor
open Go.RowKit Go.ChangeShapes Go.WideShapes

/-- One text a cell. -/
def strE (s : ByteArray) : List Value := [.string s]
end Go.Proofs.YtfiplhnplmadmaaDoor

/- Package frame: All. Conditions: the table reads as it is laid. -/
namespace Go.Proofs.YtfiplhnplmadmaaDoor
open Go.RowKit Go.Shelf
attribute [local go_sem] Oper.semAt_some

theorem info_strI : (Tryd.prog.info? 9).map (fun i => (i.zero, i.size, i.bytes)) = some (some (.string ⟨#[]⟩), 1, 16) := by kernel_rfl
def txt (l : List Fnd) : List ByteArray := l.map fun x => x.1
def lastAt (l : List Fnd) : Int := (l.getLast?.map fun x => x.2.1).getD 0
theorem txt_snoc (l : List Fnd) (x : Fnd) : txt (l ++ [x]) = txt l ++ [x.1] := by simp [txt]
theorem lastAt_snoc (l : List Fnd) (x : Fnd) : lastAt (l ++ [x]) = x.2.1 := by simp [lastAt]
theorem txt_len (l : List Fnd) : (txt l).length = l.length := by simp [txt]
theorem FRun.last {s : ByteArray} {l : List Fnd} {b : Int} (h : FRun s l b) : lastAt l = b := by
  cases h with
  | nil => rfl
  | snoc h1 h2 h3 => rw [lastAt_snoc]
theorem FRun.good {s : ByteArray} {l : List Fnd} {b : Int} (h : FRun s l b) : ∀ x ∈ l, x.2.2 = 0 := by
  induction h with
  | nil => simp
  | snoc h1 h2 h3 ih =>
    intro x hx
    rcases List.mem_append.1 hx with hx | hx
    · exact ih x hx
    · simp only [List.mem_singleton] at hx; subst hx; exact h3
/-- The variable of the loop. -/
def Fl (W : World) (B : Nat) (x : Fnd) : Prop := W.heap[B]? = some (.cells #[.string x.1, .int .i64 x.2.1, .int .i64 x.2.2] 90 (0, 0))
theorem Fl.lt {W : World} {B : Nat} {x : Fnd} (h : Fl W B x) : B < W.heap.size := (Array.getElem?_eq_some_iff.1 h).1
theorem Fl.cell {W : World} {B : Nat} {x : Fnd} (h : Fl W B x) : W.cell? ⟨B, 0, none⟩ = some (.string x.1) ∧ W.cell? ⟨B, 1, none⟩ = some (.int .i64 x.2.1) ∧ W.cell? ⟨B, 2, none⟩ = some (.int .i64 x.2.2) := by
  refine ⟨?_, ?_, ?_⟩ <;> simp [World.cell?, show W.heap[B]? = _ from h]
theorem Fl.kept {W W' : World} {row : Option Nat} {B : Nat} {x : Fnd} (h : Fl W B x) (hg : W.grownBy W' row) (hne : some B ≠ row) : Fl W' B x := (hg.block B h.lt hne).trans h
theorem Fl.own (B : Nat) (x : Fnd) : Own (fun (_ : Unit) W => Fl W B x) := fun _ X Y row hs hg hrow =>
  hs.kept hg (fun e' => by obtain ⟨o, ho, hc⟩ := hrow B e'.symm; rw [show X.heap[B]? = _ from hs] at ho; cases ho; cases hc)
theorem Fl.not_row {W : World} {B : Nat} {x : Fnd} (h : Fl W B x) {base k : Nat} {v : Value} {xs : List Value} (hr : W.ownsRow base 9 1 v k xs) : some B ≠ v.ownBlock := by
  rcases hr.2 with ⟨rfl, _⟩ | ⟨g, cap, cur, rfl, _, hgb, _⟩
  · simp [Value.ownBlock]
  · intro e'
    obtain rfl : B = g := by simpa [Value.ownBlock] using e'
    have := (show W.heap[B]? = _ from h).symm.trans hgb
    simp at this
theorem own_slice {W : World} {base : Nat} {e : TypeId} {size : Nat} {v : Value} {k : Nat} {xs : List Value} (h : W.ownsRow base e size v k xs) : ∃ ao n cap, v = .slice ao n cap := by
  rcases h.2 with ⟨rfl, _⟩ | ⟨g, cap, cur, rfl, _⟩
  · exact ⟨_, _, _, rfl⟩
  · exact ⟨_, _, _, rfl⟩
/-- What All tells. -/
def AllR (s : ByteArray) (l : List ByteArray) (b e : Int) : Prop := Run s 0 l b ∧ Ends s b e
abbrev IAll (N : Nat) (pre : List Fnd) (W : World) (e : Int) : Prop :=
  ((∃ v, Boxed W N 28 v ∧ W.ownsRow (N + 4) 9 1 v (txt pre).length ((txt pre).flatMap strE) ∧ True) ∧ Boxed W (N + 1) 3 (.int .i64 (lastAt pre))) ∧ Boxed W (N + 2) 29 (.int .i64 e)

theorem IAll.own (N : Nat) (e : Int) : Own (fun (pre : List Fnd) W => IAll N pre W e) := fun s X Y row hs hg hr =>
  ⟨⟨holdsRow_own (N + 4) N 28 9 1 (fun pre => (txt pre).length) (fun pre => (txt pre).flatMap strE) (fun _ _ => True) s X Y row hs.1.1 hg hr,
    boxed_own (N + 1) 3 (fun pre => .int .i64 (lastAt pre)) s X Y row hs.1.2 hg hr⟩, boxed_own (N + 2) 29 (fun _ => .int .i64 e) s X Y row hs.2 hg hr⟩
theorem IAll.alloc {N : Nat} {pre : List Fnd} {W : World} {e : Int} (h : IAll N pre W e) (o : Obj) : IAll N pre (W.alloc o) e :=
  IAll.own N e pre W (W.alloc o) none h (World.grownBy_alloc W o none) (fun _ e => nomatch e)
theorem own_blockI {w : World} {B : Nat} {e : TypeId} {k : Nat} {v : Value} {n : Nat} {xs : List Value} (h : w.ownsRow B e k v n xs) : ∀ g, v.ownBlock = some g → B ≤ g := by
  intro g hg
  rcases h.2 with ⟨rfl, _⟩ | ⟨g', cap, cur, rfl, hg', _⟩
  · simp [Value.ownBlock] at hg
  · simp [Value.ownBlock] at hg; omega
theorem own_lowI {w : World} {B B' : Nat} {e : TypeId} {k : Nat} {v : Value} {n : Nat} {xs : List Value} (h : w.ownsRow B e k v n xs) (hb : B' ≤ B) : w.ownsRow B' e k v n xs := by
  obtain ⟨h1, h2⟩ := h
  refine ⟨h1, ?_⟩
  rcases h2 with h2 | ⟨g, cap, cur, hv, hg, r⟩
  · exact Or.inl h2
  · exact Or.inr ⟨g, cap, cur, hv, Nat.le_trans hb hg, r⟩
theorem cell_far {W W' : World} {row : Option Nat} (hg : W.grownBy W' row) {k : Nat} (hk : some k ≠ row) {v : Value} (c : W.cell? ⟨k, 0, none⟩ = some v) : W'.cell? ⟨k, 0, none⟩ = some v :=
  (World.cell?_of_block (w := W) (hg.block k (World.block_lt_of_cell? W _ c) hk)).trans c
/-- The append, and what it leaves. -/
theorem appended {W w1 : World} {N Bx : Nat} {s : ByteArray} {pre : List Fnd} {v v' : Value} {x : Fnd} {e : Int} {m : Nat} {ys : List Value} {tmp : Obj} (hB : N + 4 ≤ W.heap.size)
    (hv : Boxed W N 28 v) (hrow : W.ownsRow (N + 4) 9 1 v (txt pre).length ((txt pre).flatMap strE)) (b1 : Boxed W (N + 1) 3 (.int .i64 (lastAt pre))) (b2 : Boxed W (N + 2) 29 (.int .i64 e)) (hx : Fl W Bx x) (hBx : N + 2 < Bx)
    (hown' : w1.ownsRow (N + 4) 9 1 v' m ys) (hgrow : (W.alloc tmp).grownBy w1 v.ownBlock) :
    (Boxed w1 N 28 v ∧ Boxed (w1.setCell ⟨N, 0, none⟩ v') N 28 v' ∧ (w1.setCell ⟨N, 0, none⟩ v').ownsRow (N + 4) 9 1 v' m ys ∧ KeepsOthers W (w1.setCell ⟨N, 0, none⟩ v') ∧ Below N W (w1.setCell ⟨N, 0, none⟩ v')) ∧
    Boxed (w1.setCell ⟨N, 0, none⟩ v') (N + 1) 3 (.int .i64 (lastAt pre)) ∧ Boxed (w1.setCell ⟨N, 0, none⟩ v') (N + 2) 29 (.int .i64 e) ∧ Fl (w1.setCell ⟨N, 0, none⟩ v') Bx x ∧
    (W.cell? ⟨N + 3, 0, none⟩ = some (.string s) → (w1.setCell ⟨N, 0, none⟩ v').cell? ⟨N + 3, 0, none⟩ = some (.string s)) := by
  obtain ⟨p1, p2, p3, p4, p5⟩ := hv.appended (by decide) (own_lowI hrow (B' := N) (by omega)) (by omega) (Nat.le_refl _) (own_lowI hown' (B' := N) (by omega)) hgrow
  refine ⟨⟨p1, p2, hown'.kept (grownBy_setCell' w1 N v') (.inr (p1.not_row (by decide) hown').symm), p4, p5⟩, ?_, ?_, ?_, ?_⟩
  · exact ((b1.alloc tmp).kept hgrow (b1.not_row (by decide) hrow)).other (by omega) v'
  · exact ((b2.alloc tmp).kept hgrow (b2.not_row (by decide) hrow)).other (by omega) v'
  · exact ((hx.kept (World.grownBy_alloc W tmp none) (fun h => nomatch h)).kept hgrow (hx.not_row hrow)).kept (grownBy_setCell' w1 N v') (fun h => by cases h; omega)
  · intro c
    refine cell_far (grownBy_setCell' w1 N v') (fun h => by cases h) (cell_far hgrow (fun h => ?_) (cell_far (World.grownBy_alloc W tmp none) (fun h => nomatch h) c))
    have := own_blockI hrow _ h.symm
    omega

set_option maxRecDepth 100000 in
set_option maxHeartbeats 4000000 in
theorem all_any (s : ByteArray) (w : World) (ht : Tab w) (hs : s.size ≤ 8796093022207) :
    Calls Tryd.prog 31 #[.string s] w fun e w' => ∃ v l b c, e = .returned (.tuple #[v, .int .i64 b, .int .i64 c]) ∧ AllR s l b c ∧ w'.ownsRow w.heap.size 9 1 v l.length (l.flatMap strE) ∧ Below w.heap.size w w' := by
  obtain ⟨i0, hi, hz0, hz1, hz2⟩ := info_parts info_strI
  obtain ⟨N, hN⟩ : ∃ N, N = w.heap.size := ⟨_, rfl⟩
  have hN0 : 0 < N := by rw [hN]; exact tab_pos ht
  refine (callsIn_wide (n := 3)).1 ?_
  refine callsIn_of_wp_marks Tryd.func31 rfl trivial ?_ rfl
  simp only [Tryd.ntmps31, List.size_toArray, List.length_cons, List.length_nil, Nat.reduceAdd, Nat.reduceSub, Array.replicate_succ, Array.replicate_zero, List.push_toArray, List.append_toArray, List.nil_append, List.cons_append]
  have h1 : 1 ≤ (3 : Nat) := by omega
  have hN0' : 0 < N := hN0
  rw [← hN]
  have HN := Lib.hid hN; clear hN
  gi_wp2
  refine wpIn_wide.2 ?_
  refine wp_scope_jumps 0 (fun a' w' => ∃ (D : Nat) (v : Value) (l : List ByteArray) (b c : Int), a' = { tmps := #[.string s, undef, .slice none 0 0, .int .i64 0, .int .i64 0, .pointer (some ⟨N, 0, none⟩), .pointer (some ⟨N + 1, 0, none⟩), .pointer (some ⟨N + 1 + 1, 0, none⟩), undef, .string s, .func (.func 63) #[] #[.pointer (some ⟨N + 1 + 1 + 1, 0, none⟩)], undef, undef, undef, undef, undef, undef, undef, undef, undef, undef, undef, undef, undef, undef, undef, undef], defers := [{ target := .collected D, args := #[] }] } ∧
      N < D ∧ w'.heap[D]? = some (.deferred (some [])) ∧ AllR s l b c ∧ Boxed w' N 28 v ∧ w'.ownsRow (N + 4) 9 1 v l.length (l.flatMap strE) ∧ Boxed w' (N + 1) 3 (.int .i64 b) ∧ Boxed w' (N + 1 + 1) 29 (.int .i64 c) ∧ Below N w w') (fun _ _ => 0) rfl ?first ?pass
  case pass =>
    rintro a' w' ⟨D, v, l, b, c, rfl, hD, hK, hR, hv, hrow, hb, hc, hB⟩
    obtain ⟨ao, n, cap, rfl⟩ := own_slice hrow
    have c0 := hv.cell; have c1 := hb.cell; have c2 := hc.cell
    have HR := Lib.hid hR; have HROW := Lib.hid hrow; have HB := Lib.hid hB; have HK := Lib.hid hK
    clear hR hrow hB hK
    go_wp2
    go_quiet (fail)
    go_wp2
    refine ⟨by simp, .inl ⟨_, _, rfl, run_takeDeferred (w := w'.drewN nq) HK.out, ?_⟩⟩
    exact ⟨_, results_tmp3 rfl _ _ _, _, l, b, c, rfl, HR.out, ownsRow_putObj (W := w'.drewN nq) (own_lowI HROW.out (by omega)) _ HK.out rfl, (below_draws HB.out nq).trans (belowK_b (w := w) (by have := HN.out; omega) (w'.drewN nq) D _ _ (by have := HN.out; omega) HK.out rfl rfl)⟩
  case first =>
    refine (wpIn_wide (n := 3)).1 ?_
    gi_wp2_with (refine ⟨trivial, ?_⟩; refine (frames_any s _).mono ?_; rintro e w' ⟨rfl, rfl⟩)
    have bL := ((Boxed.new w 28 (.slice none 0 0)).alloc (.cells #[.int .i64 0] 3)).alloc (.cells #[.int .i64 0] 29)
    have bA := (Boxed.new (w.alloc (.cells #[.slice none 0 0] 28)) 3 (.int .i64 0)).alloc (.cells #[.int .i64 0] 29)
    have bE := Boxed.new ((w.alloc (.cells #[.slice none 0 0] 28)).alloc (.cells #[.int .i64 0] 3)) 29 (.int .i64 0)
    have bL := bL.alloc (.cells #[.string s] 9)
    have bA := bA.alloc (.cells #[.string s] 9)
    have bE := bE.alloc (.cells #[.string s] 9)
    have bS := Boxed.new (((w.alloc (.cells #[.slice none 0 0] 28)).alloc (.cells #[.int .i64 0] 3)).alloc (.cells #[.int .i64 0] 29)) 9 (.string s)
    have hB0 : Below w.heap.size w ((((w.alloc (.cells #[.slice none 0 0] 28)).alloc (.cells #[.int .i64 0] 3)).alloc (.cells #[.int .i64 0] 29)).alloc (.cells #[.string s] 9)) := ((((Below.refl _ w).alloc (Nat.le_refl _) _).alloc (by simp) _).alloc (by simp; omega) _).alloc (by simp; omega) _
    have hsz : ((((w.alloc (.cells #[.slice none 0 0] 28)).alloc (.cells #[.int .i64 0] 3)).alloc (.cells #[.int .i64 0] 29)).alloc (.cells #[.string s] 9)).heap.size = w.heap.size + 4 := by simp
    have hT0 := ht.below hB0
    simp only [World.size_alloc] at bA bE bS ⊢
    rw [← HN.out] at bL bA bE bS hB0 hsz ⊢
    obtain ⟨W0, hW0⟩ : ∃ W0, ((((w.alloc (.cells #[.slice none 0 0] 28)).alloc (.cells #[.int .i64 0] 3)).alloc (.cells #[.int .i64 0] 29)).alloc (.cells #[.string s] 9)) = W0 := ⟨_, rfl⟩
    rw [hW0] at bL bA bE bS hB0 hsz hT0 ⊢
    clear hW0
    have hNW : N ≤ W0.heap.size := by omega
    refine wpIn_rangeFunc_ownH rfl h1 (gf := 63) (lb := #[.pointer (some ⟨N + 1 + 1 + 1, 0, none⟩)]) rfl trivial (enters_of Tryd.func63 (by kernel_rfl) rfl)
      (iter_stops (N + 1 + 1 + 1) N s (by omega) W0 (by omega) hN0 bS.cell hT0) KpF.t (KpF.b (by omega)) (Below.refl _ _) (fun _ => rfl)
      (fun pre W => (IAll N pre W 0 ∧ (∀ x ∈ pre, x.2.2 = 0)) ∧ Below N w W)
      (fun c pre W => (∃ pre' x, c = .goto 0 ∧ pre = pre' ++ [x] ∧ IAll N pre' W x.2.2 ∧ (∀ y ∈ pre', y.2.2 = 0) ∧ x.2.2 ≠ 0) ∧ Below N w W)
      ?hI ?hIx ?h0
      (fun x a' W => ∃ Bx, N + 2 < Bx ∧ Fl W Bx x ∧ a' = { tmps := #[.string s, undef, .slice none 0 0, .int .i64 0, .int .i64 0, .pointer (some ⟨N, 0, none⟩), .pointer (some ⟨N + 1, 0, none⟩), .pointer (some ⟨N + 1 + 1, 0, none⟩), .pointer (some ⟨Bx, 0, none⟩), .string s, .func (.func 63) #[] #[.pointer (some ⟨N + 1 + 1 + 1, 0, none⟩)], encF x, undef, undef, undef, undef, undef, undef, undef, undef, undef, undef, undef, undef, undef, undef, undef], defers := [] })
      (fun x a' _ X Y row hs hg hr => by obtain ⟨Bx, h1, h2, h3⟩ := hs; exact ⟨Bx, h1, Fl.own Bx x () X Y row h2 hg (fun r e => (hr r e).2), h3⟩)
      ?assign ?body ?done ?stop
    case hI => exact fun s' X Y row hs' hg hr => ⟨⟨IAll.own N 0 s' X Y row hs'.1.1 hg (fun r e => (hr r e).2), hs'.1.2⟩, ownFrom_below (by have := HN.out; omega) hNW s' X Y row hs'.2 hg hr⟩
    case hIx =>
      rintro c s' X Y row ⟨⟨pre', x, h1, h2, h3, h4⟩, h5⟩ hg hr
      exact ⟨⟨pre', x, h1, h2, IAll.own N x.2.2 pre' X Y row h3 hg (fun r e => (hr r e).2), h4⟩, ownFrom_below (by have := HN.out; omega) hNW s' X Y row h5 hg hr⟩
    case h0 => exact ⟨⟨⟨⟨⟨_, bL, World.ownsRow_nil _ _ _ _, trivial⟩, bA⟩, bE⟩, by simp⟩, hB0⟩
    case assign =>
      rintro l pre ⟨t, nx, e⟩ W K ⟨⟨hIA, hg⟩, hB⟩ hK
      have HG := Lib.hid hg; have HSZ := Lib.hid hsz; clear hg hsz
      have hlt2 : N + 2 < W.heap.size := hIA.2.lt
      dsimp only [encF]
      gi_wp2
      exact hK _ _ ((KeepsOthers.alloc _ _).from _) ⟨(Below.refl _ W).alloc (by omega) _, fun c => cell_far (World.grownBy_alloc W _ none) (fun h => nomatch h) c⟩ ⟨⟨hIA.alloc _, HG.out⟩, hB.alloc (by omega) _⟩ ⟨W.heap.size, hlt2, World.alloc_heap_new W _, rfl⟩
    case body =>
      rintro l pre ⟨t, nx, e⟩ a' W hl ⟨r, hr⟩ ⟨⟨⟨⟨⟨v, hv, hrow, -⟩, b1⟩, b2⟩, hg⟩, hB⟩ ⟨Bx, hBx, hx, rfl⟩ hlt
      obtain ⟨x0, x1, x2⟩ := hx.cell
      dsimp only at x0 x1 x2
      dsimp only [encF]
      have hBl := hx.lt
      have hB4 : N + 4 ≤ W.heap.size := by omega
      have hlt' : (txt pre).length < s.size := by rw [txt_len]; exact hlt
      have cv := hv.cell; have c1 := b1.cell; have f1 := b1.frozen; have c2 := b2.cell; have f2 := b2.frozen
      have HG := Lib.hid hg; have HSZ := Lib.hid hsz; have HBB := Lib.hid hB
      clear hg hsz hB
      by_cases he : e = 0
      · subst he
        gi_wp2_with (gi_at_builtin; refine wpListIn_append_own _ rfl _ _ 28 rfl (N + 4) 9 i0 (.string ⟨#[]⟩) 1 16 Tryd.underlying28 hi hz0 hz1 hz2 rfl (by decide) _ _ _ rfl (hrow.alloc _) ⟨W.heap.size, 0, none⟩ 1 1 [.string t] rfl rfl (cell_one_new _ _ _) (by simp [Value.oneCell']) (by unfold maxLen; omega) (by omega) (by simp; omega) ?_; intro v' w1 hown' hgrow _; obtain ⟨g', cap', rfl⟩ := ownsRow_succ hown'; obtain ⟨⟨p1, p2, p3, p4, p5⟩, q1, q2, q3, q4⟩ := appended (s := s) hB4 hv hrow b1 b2 hx hBx hown' hgrow; have hc1 := p1.cell; have hf1 := p1.frozen; have hc2 := q1.cell; have hf2 := q1.frozen; have hx1 := q3.cell.2.1; dsimp only at hx1)
        have g3 := grownBy_setCell' (w1.setCell ⟨N, 0, none⟩ (.slice (some ⟨g', 0, none⟩) ((txt pre).length + 1) cap')) (N + 1) (.int .i64 nx)
        have hb3 := p5.setCell (p := ⟨N + 1, 0, none⟩) (Nat.le_succ N) (.int .i64 nx)
        refine ⟨(p4.trans (KeepsOthers.setCell _ _ _)).from _, ⟨hb3, fun c => cell_far g3 (fun h => by cases h) (q4 c)⟩, ⟨⟨⟨⟨_, p2.other (by omega) _, ?_, trivial⟩, ?_⟩, q2.other (by omega) _⟩, ?_⟩, HBB.out.trans hb3⟩
        · rw [txt_snoc, List.length_append, List.flatMap_append]
          exact p3.kept g3 (.inr (q1.not_row (by decide) p3).symm)
        · rw [lastAt_snoc]; exact q1.set _
        · intro y hy
          rcases List.mem_append.1 hy with hy | hy
          · exact HG.out y hy
          · simp only [List.mem_singleton] at hy; subst hy; rfl
      · have hne : (e != 0) = true := by simpa using he
        have HE := Lib.hid he; clear he
        gi_wp2
        refine wpIn_goto ?_
        have g3 := grownBy_setCell' W (N + 2) (.int .i64 e)
        have hb3 := (Below.refl N W).setCell (p := ⟨N + 2, 0, none⟩) (by simp) (.int .i64 e)
        exact ⟨(KeepsOthers.setCell _ _ _).from _, ⟨pre, (t, nx, e), rfl, rfl, ⟨⟨⟨v, hv.other (by omega) _, hrow.kept g3 (.inr (b2.not_row (by decide) hrow).symm), trivial⟩, b1.other (by omega) _⟩, b2.set _⟩, HG.out, HE.out⟩, HBB.out.trans hb3⟩
    case done =>
      rintro D ys W hD hS ⟨⟨⟨⟨⟨v, hv, hrow, -⟩, b1⟩, b2⟩, hg⟩, hB⟩ hK
      have hR : AllR s (txt ys) (lastAt ys) 0 := by
        rcases hS with ⟨b, hrun, hge⟩ | ⟨ys', b, rfl, hrun, hlt, hne⟩
        · rw [hrun.last]; exact ⟨hrun.run, .inl ⟨hge, rfl⟩⟩
        · exact absurd (hg (nextR s b) (by simp)) hne
      have hDN : N < D := by omega
      obtain ⟨ao, n, cap, rfl⟩ := own_slice hrow
      have c0 := hv.cell; have c1 := b1.cell; have c2 := b2.cell
      have HR := Lib.hid hR; have HROW := Lib.hid hrow; have HB := Lib.hid hB; have HK := Lib.hid hK; have HSZ := Lib.hid hsz
      clear hR hrow hB hK hS hg hsz
      gi_wp2
      refine wpIn_label ?_
      gi_wp2
      refine wpIn_wide.2 ?_
      go_quiet (fail)
      gi_wp2
      refine ⟨by simp, .inl ⟨_, _, rfl, run_takeDeferred (w := W.drewN nq) HK.out, ?_⟩⟩
      exact ⟨_, results_tmp3 rfl _ _ _, _, txt ys, lastAt ys, 0, rfl, HR.out, ownsRow_putObj (W := W.drewN nq) (own_lowI HROW.out (by omega)) _ HK.out rfl, (below_draws HB.out nq).trans (belowK_b (w := w) (by have := HN.out; omega) (W.drewN nq) D _ _ (by have := HN.out; omega) HK.out rfl rfl)⟩
    case stop =>
      rintro D c pre W hD ⟨ys', b, rfl, hrun, hlt⟩ ⟨⟨pre', x, rfl, h2, ⟨⟨⟨v, hv, hrow, -⟩, b1⟩, b2⟩, hg, hne⟩, hB⟩ hK
      obtain ⟨rfl, h3⟩ := List.append_inj' h2 rfl
      obtain rfl : nextR s b = x := by simpa using h3
      refine wpIn_goto ?_
      exact ⟨rfl, D, v, txt ys', lastAt ys', _, rfl, by omega, hK, ⟨by rw [hrun.last]; exact hrun.run, by rw [hrun.last]; exact .inr ⟨hlt, rfl, hne⟩⟩, hv, hrow, b1, b2, hB⟩
end Go.Proofs.YtfiplhnplmadmaaDoor
